"""Branches: ops 16 and 18, and 16 and 528 under 19; and where the next instruction stands."""

import itertools

from tests.support import PC, WORD, StepCase, branch, conditional, plain, three


def is_taken(d, ctr_then, bit):
    """By D's bits, written out as text from the top: 4, 3, 2, 1, 0."""
    no_bit, wanted, no_count, zero, hint = format(d, "05b")
    counted = no_count == "1" or (ctr_then == 0 if zero == "1" else ctr_then != 0)
    return counted and (no_bit == "1" or bit == int(wanted))


class Plain(StepCase):
    def test_distances(self):
        for distance in (0, 4, 8, 0x1000, 0x01FFFFFC, -4, -8, -0x02000000):
            target = (PC + distance) % 2 ** 32
            place = distance % 2 ** 32
            self.check(branch(distance), None, {"pc": target})
            self.check(branch(distance, 0, 1), None, {"pc": target, "lr": PC + 4})
            self.check(branch(distance, 1), None, {"pc": place})
            self.check(branch(distance, 1, 1), None, {"pc": place, "lr": PC + 4})

    def test_near_the_ends(self):
        self.check(branch(-8), {"pc": 4}, {"pc": WORD - 3})
        self.check(branch(8), {"pc": WORD - 3}, {"pc": 4})
        self.check(branch(0, 0, 1), {"pc": WORD - 3}, {"pc": WORD - 3, "lr": 0})
        self.check(branch(-4, 1, 1), {"pc": 0}, {"pc": WORD - 3, "lr": 4})

    def test_low_bits_of_pc(self):
        for low in (1, 2, 3):
            before = {"pc": PC + low}
            self.check(branch(8, 0, 1), before, {"pc": PC + 8, "lr": PC + 4})
            self.check(branch(-4, 0, 1), {"pc": WORD - 3 + low}, {"pc": WORD - 7, "lr": 0})
            self.check(branch(0x40, 1), before, {"pc": 0x40})
            self.check(conditional(20, 0, 8, 0, 1), before, {"pc": PC + 8, "lr": PC + 4})
            self.check(three(19, 20, 0, 0, 16, 1), dict(before, lr=64), {"pc": 64, "lr": PC + 4})
            self.check(plain(24, 0, 0, 0), before, {"pc": PC + 4})

    def test_next_place(self):
        self.check(plain(24, 0, 0, 0), {"pc": 0}, {"pc": 4})
        self.check(plain(24, 0, 0, 0), {"pc": WORD - 3}, {"pc": 0})
        self.check(plain(24, 0, 0, 0), {"pc": WORD}, {"pc": 0})
        self.check(plain(24, 0, 0, 0), {"pc": 65532}, {"pc": 65536})
        self.check(plain(24, 0, 0, 0), {"pc": 65534}, {"pc": 65536})


class Conditional(StepCase):
    def test_every_d(self):
        """All of D's bits, each with a count that gets to 0, gets past it and stays off it, and both bits."""
        for d, ctr, bit, r in itertools.product(range(32), (0, 1, 2, 2 ** 31, WORD), (0, 1), (0, 1)):
            cr = (0 if bit else WORD) ^ 1 << 31 - 13
            then = ctr if d & 4 else (ctr - 1) % 2 ** 32
            taken = is_taken(d, then, bit)
            before = {"ctr": ctr, "cr": cr, "lr": 0x1236}
            after = {"ctr": then}
            if r:
                after["lr"] = PC + 4
            goals = {
                conditional(d, 13, 0x40, 0, r): PC + 0x40,
                conditional(d, 13, -0x40, 0, r): PC - 0x40,
                conditional(d, 13, 0x40, 1, r): 0x40,
                conditional(d, 13, -0x40, 1, r): 2 ** 32 - 0x40,
                three(19, d, 13, 0, 16, r): 0x1234,
            }
            for word, goal in goals.items():
                self.check(word, before, dict(after, pc=goal if taken else PC + 4))
            if d & 4:
                goal = ctr // 4 * 4
                self.check(three(19, d, 13, 0, 528, r), before, dict(after, pc=goal if taken else PC + 4))
            else:
                self.check_none(three(19, d, 13, 0, 528, r), before)

    def test_every_bit_of_cr(self):
        for number in range(32):
            for cr in (1 << 31 - number, WORD ^ 1 << 31 - number):
                bit = cr >> 31 - number & 1
                self.check(conditional(12, number, 0x20), {"cr": cr}, {"pc": PC + (0x20 if bit else 4)})
                self.check(conditional(4, number, 0x20), {"cr": cr}, {"pc": PC + (4 if bit else 0x20)})

    def test_count_told(self):
        self.check(conditional(16, 0, 0x20), {"ctr": 2}, {"ctr": 1, "pc": PC + 0x20})
        self.check(conditional(16, 0, 0x20), {"ctr": 1}, {"ctr": 0})
        self.check(conditional(16, 0, 0x20), {"ctr": 0}, {"ctr": WORD, "pc": PC + 0x20})
        self.check(conditional(18, 0, 0x20), {"ctr": 1}, {"ctr": 0, "pc": PC + 0x20})
        self.check(conditional(18, 0, 0x20), {"ctr": 0}, {"ctr": WORD})
        self.check(conditional(18, 0, 0x20), {"ctr": 2}, {"ctr": 1})

    def test_counts_where_the_bit_forbids(self):
        before = {"ctr": 5, "cr": 0}
        self.check(conditional(8, 2, 0x20), before, {"ctr": 4})
        self.check(conditional(8, 2, 0x20, 0, 1), before, {"ctr": 4, "lr": PC + 4})
        self.check(three(19, 8, 2, 0, 16, 1), before, {"ctr": 4, "lr": PC + 4})

    def test_lr_where_it_is_not_taken(self):
        self.check(conditional(12, 2, 0x20, 0, 1), {"cr": 0}, {"lr": PC + 4})
        self.check(three(19, 12, 2, 0, 528, 1), {"cr": 0}, {"lr": PC + 4})

    def test_distances(self):
        for distance in (0, 4, 0x7FFC, -4, -0x8000):
            target = (PC + distance) % 2 ** 32
            self.check(conditional(20, 0, distance), None, {"pc": target})
            self.check(conditional(20, 0, distance, 1), None, {"pc": distance % 2 ** 32})
        self.check(conditional(20, 0, -8), {"pc": 4}, {"pc": WORD - 3})
        self.check(conditional(20, 0, 8, 0, 1), {"pc": WORD - 3}, {"pc": 4, "lr": 0})

    def test_places_in_lr_and_ctr(self):
        for goal in (0, 4, 0x12345678, 2 ** 31, WORD - 3):
            for low in range(4):
                self.check(three(19, 20, 0, 0, 16), {"lr": goal + low}, {"pc": goal})
                self.check(three(19, 20, 0, 0, 16, 1), {"lr": goal + low}, {"pc": goal, "lr": PC + 4})
                self.check(three(19, 20, 0, 0, 528), {"ctr": goal + low}, {"pc": goal})
                self.check(three(19, 20, 0, 0, 528, 1), {"ctr": goal + low}, {"pc": goal, "lr": PC + 4})
