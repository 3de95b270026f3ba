"""Traps (3, and 4 under 31) and calls of the system (17)."""

import itertools

from tests.support import NUMBERS, PC, WORD, StepCase, plain, signed, three

IMMEDIATES = (0, 1, 0x1234, 0x7FFF, 0x8000, 0xFFFF)


def traps(d, a, b):
    below, above, alike, below_unsigned, above_unsigned = [sign == "1" for sign in format(d, "05b")]
    return ((below and signed(a) < signed(b)) or (above and signed(a) > signed(b)) or (alike and a == b)
            or (below_unsigned and a < b) or (above_unsigned and a > b))


class Traps(StepCase):
    def test_every_d(self):
        for d, a, b in itertools.product(range(32), NUMBERS, NUMBERS):
            self.check(three(31, d, 4, 5, 4), {4: a, 5: b}, ending=2 if traps(d, a, b) else 0)

    def test_every_d_with_an_immediate(self):
        values = NUMBERS + (0x7FFF, 0x8000, 0xFFFF, 0xFFFF8000)
        for d, a, number in itertools.product(range(32), values, IMMEDIATES):
            wide = signed(number, 16) % 2 ** 32
            self.check(plain(3, d, 4, number), {4: a}, ending=2 if traps(d, a, wide) else 0)

    def test_each_bit_told(self):
        minus = WORD
        for d, a, b in ((16, minus, 1), (8, 1, minus), (4, 7, 7), (2, 1, minus), (1, minus, 1)):
            self.check(three(31, d, 4, 5, 4), {4: a, 5: b}, ending=2)
        for d, a, number in ((16, minus, 1), (8, 1, 0xFFFF), (4, minus, 0xFFFF), (2, 1, 0xFFFF), (1, minus, 1)):
            self.check(plain(3, d, 4, number), {4: a}, ending=2)
        for d, a, b in ((16, 1, minus), (8, minus, 1), (4, 7, 8), (2, minus, 1), (1, 1, minus)):
            self.check(three(31, d, 4, 5, 4), {4: a, 5: b}, ending=0)
            self.check(three(31, d, 4, 5, 4), {4: 7, 5: 7}, ending=2 if d == 4 else 0)

    def test_nothing_is_changed(self):
        for pc in (0, PC, PC + 1, PC + 2, PC + 3, WORD, WORD - 3):
            self.check(plain(3, 31, 4, 0), {"pc": pc}, {"pc": pc}, ending=2)
            self.check(three(31, 31, 4, 5, 4), {"pc": pc}, {"pc": pc}, ending=2)

    def test_a_0_is_the_number_there(self):
        self.check(plain(3, 4, 0, 7), {0: 7}, ending=2)
        self.check(plain(3, 4, 0, 0), {0: 7}, ending=0)
        self.check(three(31, 4, 0, 5, 4), {0: 7, 5: 7}, ending=2)
        self.check(three(31, 4, 0, 5, 4), {0: 7, 5: 0}, ending=0)
        self.check(three(31, 27, 0, 0, 4), {0: 7}, ending=0)


class SystemCalls(StepCase):
    def test_pc_is_behind_it(self):
        self.check(17 << 26 | 2, None, {"pc": PC + 4}, ending=1)
        self.check(17 << 26 | 2, {"pc": PC + 3}, {"pc": PC + 4}, ending=1)
        self.check(17 << 26 | 2, {"pc": WORD - 3}, {"pc": 0}, ending=1)

    def test_no_lr(self):
        self.check(17 << 26 | 3, {"lr": 8}, {"lr": 8}, ending=1)
