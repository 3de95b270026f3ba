"""Ops 7, 8, 12 to 15, and what 31 calculates."""

import itertools

from tests.support import CA, NUMBERS, OV, SO, WORD, XER_REST, StepCase, plain, recorded, signed, three

IMMEDIATES = (0, 1, 2, 0x1234, 0x7FFF, 0x8000, 0xFFFE, 0xFFFF)
XERS = [XER_REST | so | ov | ca for so in (0, SO) for ov in (0, OV) for ca in (0, CA)]


def ripple(left, right, carry):
    """A sum bit by bit: the sum, the carry out of bit 31, and whether it overflowed."""
    total = 0
    into_sign = 0
    for bit in range(32):
        into_sign = carry
        ones = (left >> bit & 1) + (right >> bit & 1) + carry
        total |= (ones & 1) << bit
        carry = ones >> 1
    return total, carry, carry != into_sign


def with_carry(xer, carry):
    return xer & ~CA | carry * CA


def with_overflow(xer, overflowed):
    return xer & ~OV | (OV | SO if overflowed else 0)


# number: (sum of A, B and the carry, whether the carry is kept)
SUMS = {
    266: (lambda a, b, c: ripple(a, b, 0), False),
    10: (lambda a, b, c: ripple(a, b, 0), True),
    40: (lambda a, b, c: ripple(WORD - a, b, 1), False),
    8: (lambda a, b, c: ripple(WORD - a, b, 1), True),
    138: (lambda a, b, c: ripple(a, b, c), True),
    136: (lambda a, b, c: ripple(WORD - a, b, c), True),
    202: (lambda a, b, c: ripple(a, 0, c), True),
    200: (lambda a, b, c: ripple(WORD - a, 0, c), True),
    234: (lambda a, b, c: ripple(a, WORD, c), True),
    232: (lambda a, b, c: ripple(WORD - a, WORD, c), True),
    104: (lambda a, b, c: ripple(WORD - a, 0, 1), False),
}


class Immediates(StepCase):
    def test_times(self):
        for a, number in itertools.product(NUMBERS, IMMEDIATES):
            product = signed(a) * signed(number, 16) % 2 ** 32
            self.check(plain(7, 3, 4, number), {4: a}, {3: product})

    def test_times_told(self):
        self.check(plain(7, 3, 4, 0xFFFF), {4: 5}, {3: 2 ** 32 - 5})
        self.check(plain(7, 3, 4, 0x7FFF), {4: 0x10001}, {3: 0x7FFF7FFF})
        self.check(plain(7, 3, 3, 2), {3: 2 ** 31}, {3: 0})

    def test_sum(self):
        for a, number in itertools.product(NUMBERS, IMMEDIATES):
            self.check(plain(14, 3, 4, number), {4: a}, {3: (a + signed(number, 16)) % 2 ** 32})
            self.check(plain(15, 3, 4, number), {4: a}, {3: (a + number * 65536) % 2 ** 32})

    def test_sum_told(self):
        self.check(plain(14, 3, 4, 0x8000), {4: 0}, {3: 0xFFFF8000})
        self.check(plain(14, 3, 4, 1), {4: WORD}, {3: 0})
        self.check(plain(15, 3, 4, 0x8000), {4: 1}, {3: 0x80000001})
        self.check(plain(15, 3, 4, 0xFFFF), {4: 0x10005}, {3: 5})

    def test_place_0_is_no_number_in_14_and_15_alone(self):
        self.check(plain(14, 3, 0, 7), {0: 100}, {3: 7})
        self.check(plain(15, 3, 0, 7), {0: 100}, {3: 0x70000})
        self.check(plain(14, 0, 0, 0xFFFF), {0: 100}, {0: WORD})
        self.check(plain(7, 3, 0, 7), {0: 100}, {3: 700})
        self.check(plain(8, 3, 0, 107), {0: 100, "xer": 0}, {3: 7, "xer": CA})
        self.check(plain(12, 3, 0, 7), {0: 100}, {3: 107})
        self.check(plain(13, 3, 0, 7), {0: 100, "cr": 0}, {3: 107, "cr": 0x40000000})

    def test_with_carry(self):
        for a, number, xer in itertools.product(NUMBERS, IMMEDIATES, XERS):
            wide = signed(number, 16) % 2 ** 32
            total, carry, overflowed = ripple(WORD - a, wide, 1)
            self.check(plain(8, 3, 4, number), {4: a, "xer": xer}, {3: total, "xer": with_carry(xer, carry)})
            total, carry, overflowed = ripple(a, wide, 0)
            after = {3: total, "xer": with_carry(xer, carry)}
            self.check(plain(12, 3, 4, number), {4: a, "xer": xer}, after)
            after["cr"] = recorded(0x13579BDF, total, xer)
            self.check(plain(13, 3, 4, number), {4: a, "xer": xer}, after)

    def test_with_carry_told(self):
        self.check(plain(8, 3, 4, 5), {4: 5, "xer": 0}, {3: 0, "xer": CA})
        self.check(plain(8, 3, 4, 5), {4: 6, "xer": CA}, {3: WORD, "xer": 0})
        self.check(plain(8, 3, 4, 0), {4: 0, "xer": 0}, {3: 0, "xer": CA})
        self.check(plain(8, 3, 4, 0xFFFF), {4: WORD, "xer": 0}, {3: 0, "xer": CA})
        self.check(plain(12, 3, 4, 0xFFFF), {4: 1, "xer": 0}, {3: 0, "xer": CA})
        self.check(plain(12, 3, 4, 0xFFFF), {4: 0, "xer": CA}, {3: WORD, "xer": 0})
        self.check(plain(13, 3, 4, 0xFFFF), {4: 1, "xer": 0, "cr": 0}, {3: 0, "xer": CA, "cr": 0x20000000})
        self.check(plain(13, 3, 4, 0xFFFF), {4: 0, "xer": SO, "cr": 0}, {3: WORD, "cr": 0x90000000})


class Calculating(StepCase):
    def check_all_ways(self, number, a, b, xer, result, overflowed, carry=None):
        """Without and with R and O; A, B and D are each a number of their own."""
        before = {4: a, 5: b, "xer": xer}
        for o in (0, 1):
            then = xer if carry is None else with_carry(xer, carry)
            then = with_overflow(then, overflowed) if o else then
            after = {3: result, "xer": then}
            self.check(three(31, 3, 4, 5, number + 512 * o), before, after)
            after["cr"] = recorded(0x13579BDF, result, then)
            self.check(three(31, 3, 4, 5, number + 512 * o, 1), before, after)

    def test_sums(self):
        for number, row in SUMS.items():
            for a, b, xer in itertools.product(NUMBERS, NUMBERS, XERS):
                total, carry, overflowed = row[0](a, b, xer >> 29 & 1)
                self.check_all_ways(number, a, b, xer, total, overflowed, carry if row[1] else None)

    def test_sums_told(self):
        big = 2 ** 31 - 1
        self.check_all_ways(266, big, 1, 0, 2 ** 31, True)
        self.check_all_ways(266, WORD, 1, 0, 0, False)
        self.check_all_ways(10, WORD, 1, 0, 0, False, 1)
        self.check_all_ways(10, 2 ** 31, 2 ** 31, 0, 0, True, 1)
        self.check_all_ways(10, 1, 1, CA, 2, False, 0)
        self.check_all_ways(40, 3, 10, 0, 7, False)
        self.check_all_ways(40, 1, 2 ** 31, 0, big, True)
        self.check_all_ways(8, 10, 3, CA, WORD - 6, False, 0)
        self.check_all_ways(8, 3, 3, 0, 0, False, 1)
        self.check_all_ways(8, 0, 0, 0, 0, False, 1)
        self.check_all_ways(138, WORD, 0, CA, 0, False, 1)
        self.check_all_ways(138, big, 0, CA, 2 ** 31, True, 0)
        self.check_all_ways(136, 0, 0, 0, WORD, False, 0)
        self.check_all_ways(136, 0, 0, CA, 0, False, 1)
        self.check_all_ways(202, WORD, 9, CA, 0, False, 1)
        self.check_all_ways(202, WORD, 9, 0, WORD, False, 0)
        self.check_all_ways(202, big, 9, CA, 2 ** 31, True, 0)
        self.check_all_ways(200, 0, 9, CA, 0, False, 1)
        self.check_all_ways(200, 2 ** 31, 9, CA, 2 ** 31, True, 0)
        self.check_all_ways(234, 0, 9, 0, WORD, False, 0)
        self.check_all_ways(234, 0, 9, CA, 0, False, 1)
        self.check_all_ways(234, 2 ** 31, 9, 0, big, True, 1)
        self.check_all_ways(232, WORD, 9, 0, WORD, False, 0)
        self.check_all_ways(232, big, 9, 0, big, True, 1)
        self.check_all_ways(104, 1, 9, 0, WORD, False)
        self.check_all_ways(104, 0, 9, 0, 0, False)
        self.check_all_ways(104, 2 ** 31, 9, 0, 2 ** 31, True)

    def test_times(self):
        for a, b, xer in itertools.product(NUMBERS, NUMBERS, XERS):
            product = signed(a) * signed(b)
            outside = not -2 ** 31 <= product < 2 ** 31
            self.check_all_ways(235, a, b, xer, product % 2 ** 32, outside)

    def test_times_told(self):
        self.check_all_ways(235, 6, 7, 0, 42, False)
        self.check_all_ways(235, WORD, WORD, 0, 1, False)
        self.check_all_ways(235, 0x10000, 0x8000, 0, 2 ** 31, True)
        self.check_all_ways(235, 0x10000, 0xFFFF8000, 0, 2 ** 31, False)
        self.check_all_ways(235, 2 ** 31, WORD, 0, 2 ** 31, True)
        self.check_all_ways(235, 0x10000, 0x10000, 0, 0, True)

    def test_division_with_sign(self):
        for a, b, xer in itertools.product(NUMBERS, NUMBERS, XERS):
            if b == 0 or (a == 2 ** 31 and b == WORD):
                self.check_all_ways(491, a, b, xer, 0, True)
                continue
            size = abs(signed(a)) // abs(signed(b))
            quotient = size if (signed(a) < 0) == (signed(b) < 0) else -size
            self.check_all_ways(491, a, b, xer, quotient % 2 ** 32, False)

    def test_division_with_sign_told(self):
        minus = 2 ** 32
        self.check_all_ways(491, 7, 2, 0, 3, False)
        self.check_all_ways(491, minus - 7, 2, 0, minus - 3, False)
        self.check_all_ways(491, 7, minus - 2, 0, minus - 3, False)
        self.check_all_ways(491, minus - 7, minus - 2, 0, 3, False)
        self.check_all_ways(491, minus - 1, 2, 0, 0, False)
        self.check_all_ways(491, 5, 0, 0, 0, True)
        self.check_all_ways(491, 0, 0, OV, 0, True)
        self.check_all_ways(491, 2 ** 31, WORD, 0, 0, True)
        self.check_all_ways(491, 2 ** 31, 1, OV, 2 ** 31, False)

    def test_division_without_sign(self):
        for a, b, xer in itertools.product(NUMBERS, NUMBERS, XERS):
            quotient = a // b if b else 0
            self.check_all_ways(459, a, b, xer, quotient, b == 0)

    def test_division_without_sign_told(self):
        self.check_all_ways(459, WORD, 2, 0, 2 ** 31 - 1, False)
        self.check_all_ways(459, 2 ** 31, WORD, OV, 0, False)
        self.check_all_ways(459, WORD, WORD, 0, 1, False)
        self.check_all_ways(459, WORD, 1, 0, WORD, False)
        self.check_all_ways(459, WORD, 0, 0, 0, True)

    def test_upper_halves(self):
        for a, b, xer in itertools.product(NUMBERS, NUMBERS, XERS):
            before = {4: a, 5: b, "xer": xer}
            halves = {75: signed(a) * signed(b) // 2 ** 32 % 2 ** 32, 11: a * b // 2 ** 32}
            for number, half in halves.items():
                self.check(three(31, 3, 4, 5, number), before, {3: half})
                cr = recorded(0x13579BDF, half, xer)
                self.check(three(31, 3, 4, 5, number, 1), before, {3: half, "cr": cr})

    def test_upper_halves_told(self):
        million = 1000000
        minus = 2 ** 32 - million
        self.check(three(31, 3, 4, 5, 75), {4: million, 5: million}, {3: 232})
        self.check(three(31, 3, 4, 5, 75), {4: minus, 5: million}, {3: 2 ** 32 - 233})
        self.check(three(31, 3, 4, 5, 75), {4: million, 5: minus}, {3: 2 ** 32 - 233})
        self.check(three(31, 3, 4, 5, 75), {4: minus, 5: minus}, {3: 232})
        self.check(three(31, 3, 4, 5, 75), {4: 2 ** 31, 5: 2 ** 31}, {3: 0x40000000})
        self.check(three(31, 3, 4, 5, 11), {4: WORD, 5: WORD}, {3: WORD - 1})

    def test_upper_halves_have_no_overflow_bit(self):
        for number in (75, 11):
            for r in (0, 1):
                self.check_none(three(31, 3, 4, 5, number + 512, r))

    def test_a_0_is_the_number_there(self):
        before = {0: 100, 5: 30, "xer": XER_REST}
        results = {266: 130, 10: 130, 138: 130, 202: 100, 235: 3000, 491: 3, 459: 3, 75: 0, 11: 0,
                   40: 2 ** 32 - 70, 104: 2 ** 32 - 100}
        for number, result in results.items():
            self.check(three(31, 3, 0, 5, number), before, {3: result})
        self.check(three(31, 3, 0, 5, 8), before, {3: 2 ** 32 - 70})
        self.check(three(31, 3, 0, 5, 136), before, {3: 2 ** 32 - 71})
        self.check(three(31, 3, 0, 5, 200), before, {3: 2 ** 32 - 101})
        self.check(three(31, 3, 0, 5, 232), before, {3: 2 ** 32 - 102, "xer": XER_REST | CA})
        self.check(three(31, 3, 0, 5, 234), before, {3: 99, "xer": XER_REST | CA})

    def test_one_place_for_all(self):
        self.check(three(31, 7, 7, 7, 266), {7: 2 ** 31 - 1}, {7: 2 ** 32 - 2})
        self.check(three(31, 7, 7, 7, 40 + 512, 1), {7: 9, "cr": 0, "xer": OV}, {7: 0, "cr": 0x20000000, "xer": 0})
        self.check(three(31, 0, 0, 0, 235), {0: 9}, {0: 81})
        self.check(three(31, 31, 31, 31, 491), {31: 9}, {31: 1})

    def test_summed_overflow_stays_and_is_recorded(self):
        word = three(31, 3, 4, 5, 266 + 512, 1)
        self.check(word, {4: 2 ** 31 - 1, 5: 1, "xer": 0, "cr": 0}, {3: 2 ** 31, "xer": SO | OV, "cr": 0x90000000})
        self.check(word, {4: 1, 5: 1, "xer": SO | OV, "cr": 0}, {3: 2, "xer": SO, "cr": 0x50000000})
        self.check(word, {4: 1, 5: WORD, "xer": OV, "cr": 0}, {3: 0, "xer": 0, "cr": 0x20000000})
        without_o = three(31, 3, 4, 5, 266, 1)
        self.check(without_o, {4: 2 ** 31 - 1, 5: 1, "xer": 0, "cr": 0}, {3: 2 ** 31, "cr": 0x80000000})
        self.check(without_o, {4: 1, 5: 1, "xer": OV, "cr": WORD}, {3: 2, "cr": 0x4FFFFFFF})
