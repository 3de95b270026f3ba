"""What does nothing here: caches and the order of memory's uses can't be seen from the state."""

from highfirst.words import DONE

IDLE_OF_19 = (150,)
IDLE_OF_31 = (54, 86, 246, 278, 598, 854, 982)


def do_nothing(machine, word):
    return DONE


def find_pause_of_19(number):
    return do_nothing if number in IDLE_OF_19 else None


def find_pause_of_31(number):
    return do_nothing if number in IDLE_OF_31 else None
