"""What is an instruction and what is none, and the bits that aren't looked at."""

from tests.support import NUMBERS_OF_19, NUMBERS_OF_31, OPS, WORD, StepCase, lay, plain, three, turning

LOW = 1
D = 31 << 21
A = 31 << 16
B = 31 << 11
D_LOW_TWO = 3 << 21
A_LOW_TWO = 3 << 16

# (an instruction, the bits of it that aren't looked at)
UNLOOKED = (
    (plain(10, 4, 4, 77), D_LOW_TWO),
    (plain(11, 4, 4, 77), D_LOW_TWO),
    (plain(16, 20, 0, 0x40), A | 0b01011 << 21),
    (plain(16, 16, 0, 0x40), A | 0b01001 << 21),
    (plain(16, 4, 0, 0x40), 0b00011 << 21),
    (plain(16, 0, 0, 0x40), 0b00001 << 21),
    (17 << 26, (1 << 26) - 1),
    (three(19, 4, 8, 0, 0), D_LOW_TWO | A_LOW_TWO | B | LOW),
    (three(19, 20, 0, 0, 16), A | B | 0b01011 << 21),
    (three(19, 16, 0, 0, 16), A | B | 0b01001 << 21),
    (three(19, 20, 0, 0, 528), A | B | 0b01011 << 21),
    (three(19, 4, 0, 0, 528), B | 0b00011 << 21),
    (three(19, 0, 0, 0, 150), D | A | B | LOW),
    (three(31, 4, 4, 5, 0), D_LOW_TWO | LOW),
    (three(31, 4, 4, 5, 32), D_LOW_TWO | LOW),
    (three(31, 8, 4, 5, 4), LOW),
    (three(31, 3, 0, 0, 19), A | B | LOW),
    (three(31, 3, 0, 0, 144), 1 << 20 | 1 << 11 | LOW),
    (three(31, 3, 31, 31, 144), 1 << 20 | 1 << 11 | LOW),
    (three(31, 4, 0, 0, 512), D_LOW_TWO | A | B | LOW),
    (three(31, 3, 9, 0, 339), LOW),
    (three(31, 3, 9, 0, 467), LOW),
    (three(31, 0, 4, 5, 1014), D | LOW),
)


class Instructions(StepCase):
    def test_ops(self):
        for op in range(64):
            if op in OPS or op in (19, 31):
                continue
            for low in (0, 1, 0x00850000, 0x03FFFFFF, 266 << 1, 0x00642A14):
                self.check_none(op << 26 | low)

    def test_ops_that_are_told(self):
        for op in OPS:
            answer = self.ask(plain(op, 5, 4, 8))[1]
            self.assertNotEqual(answer, [-1], op)

    def test_numbers_of_19(self):
        for number in range(1024):
            for r in (0, 1):
                word = three(19, 4, 8, 0, number, r)
                if number in NUMBERS_OF_19:
                    self.assertNotEqual(self.ask(word)[1], [-1], number)
                else:
                    self.check_none(word)
                    self.check_none(three(19, 31, 31, 31, number, r))

    def test_numbers_of_31(self):
        for number in range(1024):
            for r in (0, 1):
                word = three(31, 3, 8, 0, number, r)
                if number == 150 and r == 0:
                    self.check_none(word)
                elif number in NUMBERS_OF_31:
                    self.assertNotEqual(self.ask(word)[1], [-1], number)
                else:
                    self.check_none(word)
                    self.check_none(three(31, 31, 31, 31, number, r))
                    self.check_none(three(31, 0, 0, 0, number, r))

    def test_none_at_other_places(self):
        for pc in (0, 1, 65535, WORD):
            self.check_none(0, {"pc": pc})
            self.check_none(WORD, {"pc": pc})


class Unlooked(StepCase):
    def check_unlooked(self, word, bits):
        """Each of these bits by itself, and all of them, change nothing."""
        memory = lay(0x3000, range(1, 64))
        for before in ({4: 0x3000, 5: 8, 9: 0x3000}, {4: 1, 5: 0xFFFFFFFF, 9: 5, "ctr": 1, "cr": 0xFEDCBA98}):
            expected = self.ask(word, before, memory)[1]
            self.assertNotEqual(expected, [-1])
            for bit in range(32):
                if bits >> bit & 1:
                    self.assertEqual(self.ask(word ^ 1 << bit, before, memory)[1], expected, f"{word:08x} {bit}")
            self.assertEqual(self.ask(word ^ bits, before, memory)[1], expected)

    def test_told(self):
        for word, bits in UNLOOKED:
            # What it changes in memory is told against what was there: only 1014 changes some, elsewhere.
            self.check_unlooked(word, bits)

    def test_bits_of_cr(self):
        for number in (33, 129, 193, 225, 257, 289, 417, 449):
            self.check_unlooked(three(19, 3, 9, 14, number), LOW)

    def test_no_b(self):
        for number in (202, 200, 234, 232, 104):
            for r in (0, 1):
                self.check_unlooked(three(31, 3, 4, 5, number, r), B)
                self.check_unlooked(three(31, 3, 4, 5, number + 512, r), B)
        for number in (26, 922, 954):
            for r in (0, 1):
                self.check_unlooked(three(31, 3, 4, 5, number, r), B)

    def test_memory_has_no_r(self):
        numbers = (23, 87, 279, 343, 151, 215, 407, 55, 119, 311, 375, 183, 247, 439, 534, 790, 662, 918, 20, 533, 661,
                   597, 725)
        for number in numbers:
            self.check_unlooked(three(31, 9, 4, 5, number), LOW)

    def test_nothing_looks_at_no_bits(self):
        for number in (54, 86, 246, 278, 598, 854, 982):
            self.check_unlooked(three(31, 3, 4, 5, number), D | A | B | LOW)

    def test_turning_looks_at_all_of_c_and_e(self):
        whole = turning(21, 3, 4, 0, 0, 31)
        expected = self.ask(whole, {3: WORD})[1]
        for bit in range(1, 11):
            self.assertNotEqual(self.ask(whole ^ 1 << bit, {3: WORD})[1], expected)
