"""What a call is handed is never changed, and nothing is kept from one call to the next."""

import itertools
import unittest

from highfirst.desk import run, step

from tests.support import CALL, PC, TRAP, changed_state, lay, lay_words, plain, start, three

COUNT_UP = plain(14, 3, 3, 1)


class Sealed(list):
    """A list that can't be changed, not for a while either."""

    def refuse(self, *given):
        raise AssertionError("what is handed in was changed")

    __setitem__ = __delitem__ = __iadd__ = __imul__ = refuse
    append = extend = insert = pop = remove = clear = sort = reverse = refuse


WORDS = (
    plain(14, 3, 4, 1), plain(13, 3, 4, 1), plain(36, 3, 4, 0), plain(37, 3, 4, 8), plain(46, 3, 4, 0),
    plain(47, 3, 4, 0), plain(16, 0, 2, 8) | 1, 17 << 26, plain(3, 31, 4, 0), 0, three(19, 20, 0, 0, 16, 1),
    three(31, 3, 4, 5, 778, 1), three(31, 3, 4, 5, 20), three(31, 3, 4, 5, 150, 1), three(31, 3, 4, 5, 533),
    three(31, 3, 4, 5, 661), three(31, 0, 4, 5, 1014), three(31, 3, 1, 0, 467), three(31, 4, 0, 0, 512),
)


def handed(word):
    """A state, places and bytes with this instruction, and with others behind it."""
    state = changed_state(start(), {4: 0x3000, 5: 4, "held": 1})
    memory = lay(0x3000, range(1, 200))
    memory.update(lay_words(PC, (word, COUNT_UP, plain(37, 3, 4, 8), CALL)))
    return state, list(memory), list(memory.values())


def step_at(word):
    return step(*handed(word))


def run_one_at(word):
    return run(1, *handed(word))


def run_at(word):
    return run(9, *handed(word))


def refused_at(word):
    return run(1000001, *handed(word))


CALLS = (step_at, run_one_at, run_at, refused_at)


class Calls(unittest.TestCase):
    def test_sealed_lists(self):
        for word in WORDS:
            state, places, given = handed(word)
            sealed = (Sealed(state), Sealed(places), Sealed(given))
            self.assertEqual(step(*sealed), step(state, places, given))
            for steps in (0, 1, 9, 1000001):
                self.assertEqual(run(steps, *sealed), run(steps, state, places, given))
            self.assertEqual(sealed, (state, places, given))

    def test_what_is_handed_in_stays(self):
        for word in WORDS:
            lists = handed(word)
            for steps in (0, 1, 2, 9, 1000, 1000001):
                run(steps, *lists)
                self.assertEqual(lists, handed(word))
                step(*lists)
                self.assertEqual(lists, handed(word))

    def test_nothing_is_kept(self):
        for call in CALLS:
            first = [call(word) for word in WORDS]
            second = [call(word) for word in reversed(WORDS)]
            self.assertEqual(first, list(reversed(second)))

    def test_one_behind_the_other(self):
        """Whatever is called ahead of it, and with whatever, an answer is the same."""
        alone = {(call, word): call(word) for call in CALLS for word in WORDS}
        for (ahead, word), (behind, other) in itertools.product(alone, repeat=2):
            ahead(word)
            self.assertEqual(behind(other), alone[behind, other])

    def test_one_list_for_all_calls(self):
        """The very same lists, over and over, in step and in run."""
        for word in WORDS:
            lists = handed(word)
            rounds = [(step(*lists), run(1, *lists), run(9, *lists), run(0, *lists)) for number in range(3)]
            self.assertEqual(rounds[0], rounds[1])
            self.assertEqual(rounds[0], rounds[2])

    def test_an_answer_is_the_callers_own(self):
        for call in CALLS:
            for word in WORDS:
                answer = call(word)
                kept = list(answer)
                answer.clear()
                self.assertEqual(call(word), kept)

    def test_an_answer_is_no_list_that_was_handed_in(self):
        state, places, given = handed(COUNT_UP)
        for answer in (step(state, places, given), run(0, state, places, given), run(1, state, places, given)):
            answer[:] = [99] * len(answer)
            self.assertEqual((state, places, given), handed(COUNT_UP))

    def test_endings_told(self):
        endings = {plain(14, 3, 4, 1): 0, CALL: 1, TRAP: 2}
        for word, ending in endings.items():
            answer = step_at(word)
            self.assertEqual((answer[0], len(answer)), (ending, 39))
        self.assertEqual(step_at(0), [-1])

    def test_endings_of_a_run_told(self):
        # The fourth instruction is a call of the system.
        for word, first in {plain(14, 3, 4, 1): [4, 1], CALL: [1, 1], TRAP: [0, 2], 0: [0, 3]}.items():
            self.assertEqual(run_at(word)[:2], first)
        self.assertEqual(refused_at(COUNT_UP), [-3])
