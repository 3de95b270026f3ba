"""Programs made by a rule: a run has to answer what its steps do, one after another."""

from highfirst.desk import run

from tests.support import NUMBERS_OF_19, NUMBERS_OF_31, OPS, WORD, AnswerCase, branch, conditional, lay, lay_words
from tests.support import plain, run_by_steps, three


class Numbers:
    """The same row of numbers each time, from where it begins."""

    def __init__(self, first):
        self.now = first * 2654435761 % 2 ** 32

    def below(self, end):
        self.now = (self.now * 1664525 + 1013904223) % 2 ** 32
        return (self.now >> 8) % end

    def one_of(self, row):
        return row[self.below(len(row))]

    def word(self):
        return self.one_of((0, 1, 2 ** 31, 2 ** 31 - 1, WORD, self.below(2 ** 24) * 256 + self.below(256)))


# Those that seldom end a program: no trap, no call, no branch, no move from or to what may be none.
STEADY_OPS = tuple(op for op in OPS if op not in (3, 16, 17, 18))
STEADY_OF_19 = tuple(number for number in NUMBERS_OF_19 if number not in (16, 528))
STEADY_OF_31 = tuple(number for number in NUMBERS_OF_31 if number not in (4, 150, 339, 467))
ODD = tuple(range(33, 47, 2))
MIXED = (plain(3, 4, 3, 0), three(31, 4, 5, 6, 4), 17 << 26, 0)


def instruction(numbers):
    kind = numbers.below(40)
    d, a, b, r = numbers.below(32), numbers.below(32), numbers.below(32), numbers.below(2)
    if kind < 14:
        op = numbers.one_of(STEADY_OPS)
        # So that no odd one is none: A is neither 0 nor D.
        a = (d + 1) % 31 + 1 if op in ODD else a
        return plain(op, d, a if a != d else (d + 1) % 31 + 1, numbers.below(65536))
    if kind < 18:
        return three(19, d, a, b, numbers.one_of(STEADY_OF_19), r)
    if kind < 32:
        return three(31, d, (d + 1) % 31 + 1, b, numbers.one_of(STEADY_OF_31), r)
    if kind < 34:
        return three(31, d, numbers.one_of((1, 8, 9)), 0, numbers.one_of((339, 467)), r)
    if kind < 36:
        return conditional(d, a, 4 * (numbers.below(7) - 2), 0, r)
    if kind < 38:
        return branch(4 * (numbers.below(5) + 1), 0, r)
    return three(31, d, a, b, 150, 1) if kind == 38 else numbers.one_of(MIXED)


class Generated(AnswerCase):
    def made(self, first):
        numbers = Numbers(first)
        pc = numbers.one_of((0, 0x4000, 65500, 0x7777FFE0, WORD - 40)) + numbers.below(4)
        memory = lay(numbers.below(65536), [numbers.below(256) for number in range(64)])
        memory.update(lay_words(pc // 4 * 4, [instruction(numbers) for number in range(40)]))
        state = [numbers.word() for number in range(36)] + [pc, numbers.below(2)]
        return state, memory

    def test_as_its_steps_do(self):
        endings = {}
        longest = 0
        for first in range(1, 601):
            state, memory = self.made(first)
            for steps in (3, 60):
                answer = self.call_twice(run, steps, state, list(memory), list(memory.values()))
                self.check_answer(answer, run_by_steps(steps, state, memory), 2, f"program {first}, {steps} steps")
                endings[answer[1]] = endings.get(answer[1], 0) + 1
                longest = max(longest, answer[0])
        # The rule has to make programs of every kind of ending, and long ones.
        self.assertEqual(sorted(endings), [0, 1, 2, 3])
        self.assertEqual(longest, 60)

    def test_a_run_goes_on_where_another_stopped(self):
        for first in range(1, 201):
            state, memory = self.made(first)
            whole = run(40, state, list(memory), list(memory.values()))
            half = run(15, state, list(memory), list(memory.values()))
            if half[1] != 0:
                self.assertEqual(whole, half)
                continue
            now = dict(memory)
            now.update(zip(half[40::2], half[41::2]))
            rest = run(25, half[2:40], list(now), list(now.values()))
            self.assertEqual([whole[0] - 15, whole[1]], rest[:2])
            self.assertEqual(whole[2:40], rest[2:40])
            now.update(zip(rest[40::2], rest[41::2]))
            changed = {place: byte for place, byte in now.items() if memory.get(place, 0) != byte}
            self.assertEqual(dict(zip(whole[40::2], whole[41::2])), changed)
