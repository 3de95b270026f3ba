"""Ops 20 to 29, and under 31 the gates, shifts and their like."""

import itertools

from tests.support import CA, NUMBERS, SO, WORD, XER_REST, StepCase, plain, recorded, signed, three, turning

# (the answer for the bits 0 0, 0 1, 1 0, 1 1)
TRUTH = {
    28: (0, 0, 0, 1),
    60: (0, 0, 1, 0),
    124: (1, 0, 0, 0),
    284: (1, 0, 0, 1),
    316: (0, 1, 1, 0),
    412: (1, 0, 1, 1),
    444: (0, 1, 1, 1),
    476: (1, 1, 1, 0),
}
IMMEDIATE_GATES = {24: (444, 0), 25: (444, 16), 26: (316, 0), 27: (316, 16), 28: (28, 0), 29: (28, 16)}
XERS = (XER_REST, XER_REST | SO, XER_REST | CA, XER_REST | SO | CA)


def gate(number, left, right):
    row = TRUTH[number]
    return sum(row[(left >> bit & 1) * 2 + (right >> bit & 1)] << bit for bit in range(32))


def text_of(value):
    return format(value, "032b")


def turned(value, distance):
    text = text_of(value)
    return int(text[distance:] + text[:distance], 2)


def mask(first, last):
    """Ones from bit first to bit last, walked one by one from the top and round the end."""
    text = ["0"] * 32
    bit = first
    while bit != last:
        text[bit] = "1"
        bit = (bit + 1) % 32
    text[last] = "1"
    return int("".join(text), 2)


class BitCase(StepCase):
    def check_both(self, word, before, after):
        """A word without R, and the same with it; the result goes to 4."""
        self.check(word, before, after)
        xer = after.get("xer", before.get("xer", XER_REST))
        self.check(word | 1, before, dict(after, cr=recorded(0x13579BDF, after[4], xer)))


class Turning(BitCase):
    def test_every_mask(self):
        for c, e in itertools.product(range(32), repeat=2):
            ones = mask(c, e)
            spun = turned(0xDEADBEEF, 7)
            kept = 0x13577531 & ~ones
            self.check_both(turning(21, 3, 4, 7, c, e), {3: 0xDEADBEEF}, {4: spun & ones})
            self.check_both(turning(20, 3, 4, 7, c, e), {3: 0xDEADBEEF, 4: 0x13577531}, {4: spun & ones | kept})
            self.check_both(turning(23, 3, 4, 5, c, e), {3: 0xDEADBEEF, 5: 7}, {4: spun & ones})

    def test_every_turn(self):
        for value, distance in itertools.product(NUMBERS, range(32)):
            spun = turned(value, distance)
            low = mask(8, 23)
            self.check_both(turning(21, 3, 4, distance, 0, 31), {3: value}, {4: spun})
            self.check_both(turning(21, 3, 4, distance, 8, 23), {3: value, "xer": SO}, {4: spun & low})
            self.check_both(turning(20, 3, 4, distance, 8, 23), {3: value, 4: WORD}, {4: spun & low | WORD & ~low})
            for above in (0, 32, 0xFFFFFFE0):
                self.check_both(turning(23, 3, 4, 5, 8, 23), {3: value, 5: distance | above}, {4: spun & low})

    def test_told(self):
        self.check(turning(21, 3, 4, 0, 24, 31), {3: 0x12345678}, {4: 0x78})
        self.check(turning(21, 3, 4, 8, 0, 31), {3: 0x12345678}, {4: 0x34567812})
        self.check(turning(21, 3, 4, 31, 0, 31), {3: 1}, {4: 2 ** 31})
        self.check(turning(21, 3, 4, 0, 31, 0), {3: WORD}, {4: 0x80000001})
        self.check(turning(21, 3, 4, 0, 5, 5), {3: WORD}, {4: 0x04000000})
        self.check(turning(21, 3, 4, 0, 6, 5), {3: WORD}, {4: WORD})
        self.check(turning(20, 3, 4, 16, 0, 15), {3: 0x5678, 4: 0x9999AAAA}, {4: 0x5678AAAA})
        self.check(turning(20, 3, 4, 0, 28, 3), {3: 0, 4: WORD}, {4: 0x0FFFFFF0})
        self.check(turning(23, 3, 4, 5, 0, 31), {3: 0x12345678, 5: 0xFFFFFFE4}, {4: 0x23456781})

    def test_number_0_and_one_place_for_all(self):
        self.check(turning(21, 0, 0, 4, 0, 31), {0: 0x12345678}, {0: 0x23456781})
        self.check(turning(20, 0, 0, 4, 0, 3), {0: 0x12345678}, {0: 0x22345678})
        self.check(turning(23, 0, 0, 0, 0, 31), {0: 4}, {0: 64})

    def test_recorded_told(self):
        self.check(turning(21, 3, 4, 0, 0, 31, 1), {3: 2 ** 31, "cr": 0}, {4: 2 ** 31, "cr": 0x80000000})
        self.check(turning(21, 3, 4, 0, 1, 31, 1), {3: 2 ** 31, "cr": 0}, {4: 0, "cr": 0x20000000})
        self.check(turning(20, 3, 4, 0, 0, 31, 1), {3: 1, "cr": 0, "xer": SO}, {4: 1, "cr": 0x50000000})


class Gates(BitCase):
    def test_immediates(self):
        for op, row in IMMEDIATE_GATES.items():
            for value, number, xer in itertools.product(NUMBERS, (0, 1, 0x1234, 0x7FFF, 0x8000, 0xFFFF), XERS):
                result = gate(row[0], value, number << row[1])
                after = {4: result}
                if op >= 28:
                    after["cr"] = recorded(0x13579BDF, result, xer)
                self.check(plain(op, 3, 4, number), {3: value, "xer": xer}, after)

    def test_immediates_told(self):
        self.check(plain(24, 3, 4, 0xFFFF), {3: 0x12345678}, {4: 0x1234FFFF})
        self.check(plain(25, 3, 4, 0x8000), {3: 0x12345678}, {4: 0x92345678})
        self.check(plain(26, 3, 4, 0xFFFF), {3: 0x12345678}, {4: 0x1234A987})
        self.check(plain(27, 3, 4, 0xFFFF), {3: 0x12345678}, {4: 0xEDCB5678})
        self.check(plain(28, 3, 4, 0xFF00), {3: 0xFFFFFFFF, "cr": 0}, {4: 0xFF00, "cr": 0x40000000})
        self.check(plain(29, 3, 4, 0xFF00), {3: 0xFFFFFFFF, "cr": 0}, {4: 0xFF000000, "cr": 0x80000000})
        self.check(plain(28, 3, 4, 0), {3: WORD, "cr": 0, "xer": SO}, {4: 0, "cr": 0x30000000})
        self.check(plain(24, 0, 0, 1), {0: 2}, {0: 3})

    def test_words(self):
        for number in TRUTH:
            for d, b, xer in itertools.product(NUMBERS, NUMBERS, (XER_REST, XER_REST | SO)):
                self.check_both(three(31, 3, 4, 5, number), {3: d, 5: b, "xer": xer}, {4: gate(number, d, b)})

    def test_words_told(self):
        before = {3: 0b0011, 5: 0b0101}
        results = {28: 1, 60: 2, 124: WORD - 7, 284: WORD - 6, 316: 6, 412: WORD - 4, 444: 7, 476: WORD - 1}
        for number, result in results.items():
            self.check(three(31, 3, 4, 5, number), before, {4: result})
        self.check(three(31, 0, 0, 0, 444), {0: 77}, {0: 77})
        self.check(three(31, 0, 0, 0, 316, 1), {0: 77, "cr": 0}, {0: 0, "cr": 0x20000000})


class CountsAndSigns(BitCase):
    def test_zeros_before_the_first_one(self):
        for number in range(32):
            self.check_both(three(31, 3, 4, 5, 26), {3: 1 << number}, {4: 31 - number})
            self.check_both(three(31, 3, 4, 5, 26), {3: (2 << number) - 1}, {4: 31 - number})
        self.check_both(three(31, 3, 4, 5, 26), {3: 0}, {4: 32})
        self.check(three(31, 3, 4, 5, 26, 1), {3: WORD, "cr": 0}, {4: 0, "cr": 0x20000000})

    def test_signs(self):
        for value in NUMBERS + (0x7F, 0x80, 0xFF, 0x100, 0x17F, 0x7FFF, 0x8000, 0xFFFF, 0x10000, 0xABCD8000):
            for xer in (XER_REST, XER_REST | SO):
                before = {3: value, "xer": xer}
                self.check_both(three(31, 3, 4, 5, 922), before, {4: signed(value, 16) % 2 ** 32})
                self.check_both(three(31, 3, 4, 5, 954), before, {4: signed(value, 8) % 2 ** 32})

    def test_signs_told(self):
        self.check(three(31, 3, 4, 0, 922), {3: 0x12348001}, {4: 0xFFFF8001})
        self.check(three(31, 3, 4, 0, 922), {3: 0x8FFF7FFF}, {4: 0x7FFF})
        self.check(three(31, 3, 4, 0, 954), {3: 0x12345680}, {4: 0xFFFFFF80})
        self.check(three(31, 3, 4, 0, 954), {3: 0xFFFFFF7F}, {4: 0x7F})
        self.check(three(31, 3, 4, 0, 954, 1), {3: 0x80, "cr": 0}, {4: 0xFFFFFF80, "cr": 0x80000000})


class Shifts(BitCase):
    def test_left_and_right(self):
        for value, distance, above in itertools.product(NUMBERS, range(64), (0, 64, 0xFFFFFFC0)):
            before = {3: value, 5: distance | above}
            self.check_both(three(31, 3, 4, 5, 24), before, {4: value * 2 ** distance % 2 ** 32})
            self.check_both(three(31, 3, 4, 5, 536), before, {4: value // 2 ** distance})

    def expected_with_sign(self, value, distance, xer):
        text = text_of(value)
        filled = (text[0] * 64 + text)[:96 - distance][-32:]
        lost = text[max(0, 32 - distance):] if distance else ""
        carry = text[0] == "1" and "1" in lost
        return {4: int(filled, 2), "xer": xer | CA if carry else xer & ~CA}

    def test_right_with_sign(self):
        values = NUMBERS + (0xFFFFFF00, 0xC0000000, 0x80000001, 0x7FFFFF00)
        for value, distance, xer in itertools.product(values, range(64), XERS):
            after = self.expected_with_sign(value, distance, xer)
            for above in (0, 0xFFFFFFC0):
                before = {3: value, 5: distance | above, "xer": xer}
                self.check_both(three(31, 3, 4, 5, 792), before, after)
            if distance < 32:
                self.check_both(three(31, 3, 4, distance, 824), {3: value, "xer": xer}, after)

    def test_told(self):
        self.check(three(31, 3, 4, 5, 24), {3: WORD, 5: 0}, {4: WORD})
        self.check(three(31, 3, 4, 5, 24), {3: WORD, 5: 31}, {4: 2 ** 31})
        self.check(three(31, 3, 4, 5, 24), {3: WORD, 5: 32}, {4: 0})
        self.check(three(31, 3, 4, 5, 24), {3: WORD, 5: 63}, {4: 0})
        self.check(three(31, 3, 4, 5, 24), {3: WORD, 5: 64}, {4: WORD})
        self.check(three(31, 3, 4, 5, 536), {3: WORD, 5: 31}, {4: 1})
        self.check(three(31, 3, 4, 5, 536), {3: WORD, 5: 32}, {4: 0})
        self.check(three(31, 3, 4, 5, 792), {3: WORD, 5: 0, "xer": CA}, {4: WORD, "xer": 0})
        self.check(three(31, 3, 4, 5, 792), {3: 2 ** 31, 5: 31, "xer": CA}, {4: WORD, "xer": 0})
        self.check(three(31, 3, 4, 5, 792), {3: 2 ** 31, 5: 32, "xer": 0}, {4: WORD, "xer": CA})
        self.check(three(31, 3, 4, 5, 792), {3: 2 ** 31, 5: 63, "xer": 0}, {4: WORD, "xer": CA})
        self.check(three(31, 3, 4, 5, 792), {3: 2 ** 31 - 1, 5: 63, "xer": CA}, {4: 0, "xer": 0})
        self.check(three(31, 3, 4, 5, 792), {3: 7, 5: 1, "xer": CA}, {4: 3, "xer": 0})
        self.check(three(31, 3, 4, 1, 824), {3: 2 ** 32 - 3, "xer": 0}, {4: 2 ** 32 - 2, "xer": CA})
        self.check(three(31, 3, 4, 1, 824), {3: 2 ** 32 - 4, "xer": CA}, {4: 2 ** 32 - 2, "xer": 0})
        self.check(three(31, 3, 4, 0, 824), {3: WORD, "xer": CA}, {4: WORD, "xer": 0})
        self.check(three(31, 3, 4, 31, 824), {3: 2 ** 31 + 1, "xer": 0}, {4: WORD, "xer": CA})

    def test_b_itself_is_no_place(self):
        self.check(three(31, 3, 4, 5, 824), {3: 0x1000, 5: 1}, {4: 0x80})

    def test_number_0(self):
        self.check(three(31, 0, 0, 0, 24), {0: 3}, {0: 24})
        self.check(three(31, 0, 0, 2, 824), {0: 12}, {0: 3})
