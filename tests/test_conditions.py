"""Comparisons, the fields and bits of cr, and moves between r and the other numbers."""

import itertools

from tests.support import CA, NUMBERS, OV, SO, WORD, XER_REST, StepCase, field_of, plain, signed, three, with_field

CR = 0x13579BDF

# (the answer for the bits 0 0, 0 1, 1 0, 1 1)
TRUTH = {
    33: (1, 0, 0, 0),
    129: (0, 0, 1, 0),
    193: (0, 1, 1, 0),
    225: (1, 1, 1, 0),
    257: (0, 0, 0, 1),
    289: (1, 0, 0, 1),
    417: (1, 0, 1, 1),
    449: (0, 1, 1, 1),
}


class Comparisons(StepCase):
    def test_words(self):
        for field, a, b, xer in itertools.product(range(8), NUMBERS, NUMBERS, (XER_REST, XER_REST | SO)):
            before = {4: a, 5: b, "xer": xer}
            with_sign = with_field(CR, field, field_of(signed(a), signed(b), xer))
            self.check(three(31, field * 4, 4, 5, 0), before, {"cr": with_sign})
            self.check(three(31, field * 4, 4, 5, 32), before, {"cr": with_field(CR, field, field_of(a, b, xer))})

    def test_immediates(self):
        values = NUMBERS + (0x7FFF, 0x8000, 0xFFFF, 0xFFFF8000)
        numbers = (0, 1, 0x1234, 0x7FFF, 0x8000, 0xFFFF)
        for field, a, number, xer in itertools.product(range(8), values, numbers, (XER_REST, XER_REST | SO)):
            before = {4: a, "xer": xer}
            without = with_field(CR, field, field_of(a, number, xer))
            with_sign = with_field(CR, field, field_of(signed(a), signed(number, 16), xer))
            self.check(plain(10, field * 4, 4, number), before, {"cr": without})
            self.check(plain(11, field * 4, 4, number), before, {"cr": with_sign})

    def test_told(self):
        self.check(three(31, 0, 4, 5, 0), {4: WORD, 5: 0, "cr": 0}, {"cr": 0x80000000})
        self.check(three(31, 0, 4, 5, 32), {4: WORD, 5: 0, "cr": 0}, {"cr": 0x40000000})
        self.check(three(31, 28, 4, 4, 32), {"cr": 0, "xer": SO}, {"cr": 3})
        self.check(plain(10, 4, 4, 0xFFFF), {4: 0xFFFF, "cr": 0}, {"cr": 0x02000000})
        self.check(plain(10, 4, 4, 0xFFFF), {4: WORD, "cr": 0}, {"cr": 0x04000000})
        self.check(plain(11, 4, 4, 0xFFFF), {4: WORD, "cr": 0}, {"cr": 0x02000000})
        self.check(plain(11, 4, 4, 0xFFFF), {4: 0, "cr": 0, "xer": SO}, {"cr": 0x05000000})
        self.check(plain(11, 4, 4, 0), {4: 0, "cr": WORD, "xer": OV | CA}, {"cr": 0xF2FFFFFF})

    def test_a_0_is_the_number_there(self):
        self.check(plain(10, 0, 0, 7), {0: 7, "cr": 0}, {"cr": 0x20000000})
        self.check(plain(11, 0, 0, 7), {0: 7, "cr": 0}, {"cr": 0x20000000})
        self.check(three(31, 0, 0, 5, 0), {0: 7, 5: 7, "cr": 0}, {"cr": 0x20000000})
        self.check(three(31, 0, 0, 5, 32), {0: 7, 5: 7, "cr": 0}, {"cr": 0x20000000})
        self.check(three(31, 0, 5, 0, 0), {0: 7, 5: 7, "cr": 0}, {"cr": 0x20000000})


class Fields(StepCase):
    def test_field_to_field(self):
        for to, source in itertools.product(range(8), repeat=2):
            digit = CR >> 28 - 4 * source & 15
            self.check(three(19, to * 4, source * 4, 0, 0), None, {"cr": with_field(CR, to, digit)})

    def test_field_to_field_told(self):
        self.check(three(19, 0, 28, 0, 0), {"cr": 0x1234567A}, {"cr": 0xA234567A})
        self.check(three(19, 28, 0, 0, 0), {"cr": 0x1234567A}, {"cr": 0x12345671})

    def test_gates(self):
        for number, row in TRUTH.items():
            for left, right, old, rest in itertools.product((0, 1), (0, 1), (0, 1), (0, WORD)):
                cr = rest & ~(1 << 20 | 1 << 9 | 1 << 2) | old << 20 | left << 9 | right << 2
                after = cr & ~(1 << 20) | row[left * 2 + right] << 20
                self.check(three(19, 11, 22, 29, number), {"cr": cr}, {"cr": after})

    def test_gates_over_one_bit(self):
        for number, row in TRUTH.items():
            for bit, cr in itertools.product((0, 17, 31), (0, WORD)):
                answer = row[3] if cr else row[0]
                after = cr & ~(1 << 31 - bit) | answer << 31 - bit
                self.check(three(19, bit, bit, bit, number), {"cr": cr}, {"cr": after})

    def test_nothing(self):
        self.check(three(19, 0, 0, 0, 150))

    def test_all_of_cr_to_d(self):
        for cr in NUMBERS:
            self.check(three(31, 3, 0, 0, 19), {"cr": cr}, {3: cr})
        self.check(three(31, 0, 0, 0, 19), {"cr": 77}, {0: 77})

    def test_fields_from_d(self):
        for value, cr, chosen in itertools.product((0, WORD, 0xFEDCBA98), (0, WORD, CR), range(256)):
            after = cr
            for field in range(8):
                if chosen >> 7 - field & 1:
                    after = with_field(after, field, value >> 28 - 4 * field & 15)
            self.check(31 << 26 | 3 << 21 | chosen << 12 | 144 << 1, {3: value, "cr": cr}, {"cr": after})

    def test_fields_from_d_told(self):
        word = 31 << 26 | 3 << 21 | 144 << 1
        self.check(word | 1 << 19, {3: 0x12345678, "cr": 0}, {"cr": 0x10000000})
        self.check(word | 1 << 12, {3: 0x12345678, "cr": 0}, {"cr": 8})
        self.check(word | 0xFF << 12, {3: 0x12345678, "cr": WORD}, {"cr": 0x12345678})
        self.check(word, {3: 0x12345678, "cr": WORD}, {"cr": WORD})

    def test_top_of_xer(self):
        for field, top in itertools.product(range(8), range(16)):
            after = {"cr": with_field(CR, field, top), "xer": 0x0ABCDEFF}
            self.check(three(31, field * 4, 0, 0, 512), {"xer": top << 28 | 0x0ABCDEFF}, after)


class Moves(StepCase):
    def test_from(self):
        for value in NUMBERS:
            self.check(three(31, 3, 1, 0, 339), {"xer": value}, {3: value})
            self.check(three(31, 3, 8, 0, 339), {"lr": value}, {3: value})
            self.check(three(31, 3, 9, 0, 339), {"ctr": value}, {3: value})

    def test_to(self):
        for value in NUMBERS:
            self.check(three(31, 3, 1, 0, 467), {3: value}, {"xer": value})
            self.check(three(31, 3, 8, 0, 467), {3: value}, {"lr": value})
            self.check(three(31, 3, 9, 0, 467), {3: value}, {"ctr": value})

    def test_d_0(self):
        self.check(three(31, 0, 8, 0, 339), {0: 5, "lr": 9}, {0: 9})
        self.check(three(31, 0, 8, 0, 467), {0: 5, "lr": 9}, {"lr": 5})

    def test_others_are_none(self):
        for a, b, number, r in itertools.product(range(32), range(32), (339, 467), (0, 1)):
            if b != 0 or a not in (1, 8, 9):
                self.check_none(three(31, 3, a, b, number, r))
