"""What leaves the row of instructions: branches, traps and calls of the system."""

from highfirst.words import DONE, NO_INSTRUCTION, SYSTEM_CALL, TRAP, WORD, field_a, field_b, field_d, immediate
from highfirst.words import is_recorded, signed


def is_trapped(conditions, left, right):
    if left == right:
        return (conditions & 4) != 0
    if conditions & (16 if signed(left) < signed(right) else 8):
        return True
    return (conditions & (2 if left < right else 1)) != 0


def trap_immediate(machine, word):
    right = immediate(word) & WORD
    return TRAP if is_trapped(field_d(word), machine.general[field_a(word)], right) else DONE


def trap_words(machine, word):
    left = machine.general[field_a(word)]
    return TRAP if is_trapped(field_d(word), left, machine.general[field_b(word)]) else DONE


def call_system(machine, word):
    return SYSTEM_CALL


def link(machine, word):
    if is_recorded(word):
        machine.lr = machine.following


def place_from(machine, word, distance):
    if word & 2:
        return distance & WORD
    return (machine.here + distance) & WORD


def count_allows(machine, conditions):
    if conditions & 4:
        return True
    machine.ctr = (machine.ctr - 1) & WORD
    wants_zero = (conditions & 2) != 0
    return (machine.ctr == 0) == wants_zero


def bit_allows(machine, conditions, number):
    if conditions & 16:
        return True
    return machine.condition_bit(number) == ((conditions >> 3) & 1)


def branch_if(machine, word, place):
    # The count goes down and lr is set whether or not the branch is taken.
    conditions = field_d(word)
    counted = count_allows(machine, conditions)
    taken = counted and bit_allows(machine, conditions, field_a(word))
    link(machine, word)
    if taken:
        machine.branch_to(place)
    return DONE


def branch_by_condition(machine, word):
    distance = immediate(word & 0xFFFFFFFC)
    return branch_if(machine, word, place_from(machine, word, distance))


def branch(machine, word):
    distance = ((word & 0x03FFFFFC) ^ 0x02000000) - 0x02000000
    place = place_from(machine, word, distance)
    link(machine, word)
    machine.branch_to(place)
    return DONE


def branch_to_lr(machine, word):
    return branch_if(machine, word, machine.lr)


def branch_to_ctr(machine, word):
    # A branch to the count can't count as well.
    if (field_d(word) & 4) == 0:
        return NO_INSTRUCTION
    return branch_if(machine, word, machine.ctr)


BY_OP = {
    3: trap_immediate,
    16: branch_by_condition,
    17: call_system,
    18: branch,
}

BY_NUMBER_OF_19 = {
    16: branch_to_lr,
    528: branch_to_ctr,
}

BY_NUMBER_OF_31 = {
    4: trap_words,
}


def find_branch_by_op(op):
    return BY_OP.get(op)


def find_branch_of_19(number):
    return BY_NUMBER_OF_19.get(number)


def find_trap_of_31(number):
    return BY_NUMBER_OF_31.get(number)
