"""Whole programs: loops, calls, memory, instructions that are written over, and what one hands on to the next."""

from highfirst.desk import run

from tests.support import CA, CALL, IDLE, NONES, OV, PC, SO, TRAP, WORD, RunCase, branch, bytes_of, changed_state
from tests.support import conditional, lay, lay_words, plain, real_changes, start, three

COUNT_UP = plain(14, 3, 3, 1)
RETURN = three(19, 20, 0, 0, 16)
SPOT = PC % 65536


class Loops(RunCase):
    def test_by_a_count_to_its_end(self):
        words = [COUNT_UP, conditional(16, 0, -4), CALL]
        for count in (1, 2, 3, 10, 100):
            after = {3: count, "ctr": 0, "pc": PC + 12}
            self.check(1000, words, 2 * count + 1, 1, {3: 0, "ctr": count}, after)

    def test_by_a_count_that_uses_up_all_steps(self):
        words = [COUNT_UP, conditional(16, 0, -4), CALL]
        self.check(20, words, 20, 0, {3: 0, "ctr": 1000}, {3: 10, "ctr": 990, "pc": PC})
        self.check(21, words, 21, 0, {3: 0, "ctr": 1000}, {3: 11, "ctr": 990, "pc": PC + 4})
        self.check(20, words, 20, 0, {3: 0, "ctr": 10}, {3: 10, "ctr": 0, "pc": PC + 8})
        self.check(19, words, 19, 0, {3: 0, "ctr": 10}, {3: 10, "ctr": 1, "pc": PC + 4})

    def test_a_count_of_0_goes_on_from_the_top(self):
        words = [COUNT_UP, conditional(16, 0, -4), CALL]
        self.check(100, words, 100, 0, {3: 0, "ctr": 0}, {3: 50, "ctr": 2 ** 32 - 50, "pc": PC})

    def test_until_the_count_is_0(self):
        words = [COUNT_UP, conditional(18, 0, 8), branch(-8), CALL]
        self.check(1000, words, 15, 1, {3: 0, "ctr": 5}, {3: 5, "ctr": 0, "pc": PC + 16})
        self.check(9, words, 9, 0, {3: 0, "ctr": 5}, {3: 3, "ctr": 2, "pc": PC})

    def test_many_rounds(self):
        words = [COUNT_UP, conditional(16, 0, -4), CALL]
        self.check(1000000, words, 100001, 1, {3: 0, "ctr": 50000}, {3: 50000, "ctr": 0, "pc": PC + 12})
        self.check(999999, words, 999999, 0, {3: 0, "ctr": WORD}, {3: 500000, "ctr": WORD - 499999, "pc": PC + 4})

    def test_by_a_count_and_a_bit(self):
        """Round again while the count is not 0 and 3 isn't 7 (bit 2 of cr is clear)."""
        words = [COUNT_UP, plain(11, 0, 3, 7), conditional(0, 2, -8), CALL]
        before = {3: 0, "cr": 0, "xer": 0}
        self.check(1000, words, 22, 1, dict(before, ctr=50), {3: 7, "ctr": 43, "cr": 0x20000000, "pc": PC + 16})
        self.check(1000, words, 16, 1, dict(before, ctr=5), {3: 5, "ctr": 0, "cr": 0x80000000, "pc": PC + 16})

    def test_by_a_comparison(self):
        words = [plain(13, 3, 3, -3), conditional(12, 1, -4), CALL]
        after = {3: WORD - 1, "xer": 0, "cr": 0x80000000, "pc": PC + 12}
        self.check(1000, words, 9, 1, {3: 10, "cr": 0, "xer": 0}, after)

    def test_a_loop_in_a_loop(self):
        inner = [plain(14, 5, 0, 4), three(31, 5, 9, 0, 467), COUNT_UP, conditional(16, 0, -4)]
        words = inner + [plain(13, 4, 4, -1), conditional(4, 2, -20), CALL]
        before = {3: 0, 4: 3, "cr": 0, "xer": 0}
        after = {3: 12, 4: 0, 5: 4, "ctr": 0, "cr": 0x20000000, "xer": CA, "pc": PC + 28}
        self.check(1000, words, 3 * 12 + 1, 1, before, after)

    def test_products_added_up(self):
        """1 * 1 + 2 * 2 + .. + 100 * 100."""
        words = [COUNT_UP, three(31, 5, 3, 3, 235), three(31, 4, 4, 5, 266), conditional(16, 0, -12), CALL]
        after = {3: 100, 4: 338350, 5: 10000, "ctr": 0, "pc": PC + 20}
        self.check(1000, words, 401, 1, {3: 0, 4: 0, "ctr": 100}, after)

    def test_a_common_divisor(self):
        """Of 3 and 4, by taking the smaller from the greater."""
        words = [three(31, 0, 3, 4, 32), conditional(12, 2, 24), conditional(12, 0, 12),
                 three(31, 3, 4, 3, 40), branch(-16), three(31, 4, 3, 4, 40), branch(-24), CALL]
        state, answer = self.ask(1000, words, {3: 1071, 4: 462})
        self.assertEqual(answer[1], 1)
        self.assertEqual(answer[2 + 3:2 + 5], [21, 21])


class CallsAndReturns(RunCase):
    def test_there_and_back(self):
        words = [branch(12, 0, 1), CALL, TRAP, COUNT_UP, RETURN]
        self.check(1000, words, 4, 1, {3: 1}, {3: 2, "lr": PC + 4, "pc": PC + 8})

    def test_to_ctr_and_back(self):
        words = [three(31, 5, 9, 0, 467), three(19, 20, 0, 0, 528, 1), CALL]
        memory = lay_words(0x4000, [COUNT_UP, RETURN])
        self.check(1000, words, 5, 1, {3: 1, 5: 0x4003},
                   {3: 2, "ctr": 0x4003, "lr": PC + 8, "pc": PC + 12}, memory)

    def test_back_and_forth(self):
        """A branch to lr that sets lr goes from one to the other and back."""
        words = [branch(0x1000, 0, 1), COUNT_UP, three(19, 20, 0, 0, 16, 1), CALL]
        memory = lay_words(SPOT + 0x1000, [COUNT_UP, three(19, 20, 0, 0, 16, 1), COUNT_UP, RETURN])
        self.check(1000, words, 8, 1, {3: 0}, {3: 3, "lr": PC + 12, "pc": PC + 16}, memory)

    def test_by_a_condition(self):
        words = [plain(11, 0, 3, 5), conditional(12, 2, 8, 0, 1), COUNT_UP, CALL]
        self.check(1000, words, 3, 1, {3: 5, "cr": 0, "xer": 0},
                   {"cr": 0x20000000, "lr": PC + 8, "pc": PC + 16})
        self.check(1000, words, 4, 1, {3: 4, "cr": 0, "xer": 0},
                   {3: 5, "cr": 0x80000000, "lr": PC + 8, "pc": PC + 16})

    def test_calls_within_calls(self):
        """10 times all below it, down to 1: each call keeps lr and its number on a stack in memory."""
        words = [
            branch(8, 0, 1), CALL,
            plain(10, 0, 3, 1), conditional(4, 1, 48), plain(37, 1, 1, -16), three(31, 0, 8, 0, 339),
            plain(36, 0, 1, 4), plain(36, 3, 1, 8), plain(14, 3, 3, -1), branch(-28, 0, 1),
            plain(32, 4, 1, 8), three(31, 3, 3, 4, 235), plain(32, 0, 1, 4), three(31, 0, 8, 0, 467),
            plain(14, 1, 1, 16), RETURN,
        ]
        before = {0: 9, 1: 0x9000, 3: 10, 4: 9, "cr": 0, "xer": 0}
        state, answer = self.ask(1000, words, before)
        self.assertEqual(answer[1], 1)
        self.assertEqual(answer[2 + 3], 3628800)
        self.assertEqual(answer[2 + 1], 0x9000)
        self.assertEqual(answer[2 + 34], PC + 4)
        self.assertEqual(answer[2 + 36], PC + 8)


class StoredAndLoaded(RunCase):
    def test_one_behind_the_other(self):
        words = [plain(36, 3, 4, 0), plain(34, 5, 4, 1), plain(40, 6, 4, 1), plain(42, 7, 4, 2), plain(32, 8, 4, -2)]
        before = {3: 0x1122F344, 4: 0x3000}
        after = {5: 0x22, 6: 0x22F3, 7: 0xFFFFF344, 8: 0x1122}
        self.check(5, words, 5, 0, before, after, None, lay(0x3000, (0x11, 0x22, 0xF3, 0x44)))

    def test_over_what_was_there(self):
        words = [plain(38, 3, 4, 1), plain(44, 5, 4, 3), plain(32, 6, 4, 0), plain(32, 7, 4, 2)]
        memory = lay(0x3000, (1, 2, 3, 4, 5, 6))
        before = {3: 0xAA, 4: 0x3000, 5: 0xBBCC}
        after = {6: 0x01AA03BB, 7: 0x03BBCC06}
        self.check(4, words, 4, 0, before, after, memory, {0x3001: 0xAA, 0x3003: 0xBB, 0x3004: 0xCC})

    def test_each_way_out_and_back(self):
        """Four bytes out, the lowest first, back the highest first; and the registers from 28 on."""
        words = [three(31, 3, 0, 4, 662), three(31, 5, 0, 4, 23), plain(47, 28, 4, 7), plain(46, 28, 4, 3)]
        before = {3: 0x11223344, 4: 0x3001, 28: 0xA1A2A3A4, 29: 0xB1B2B3B4, 30: 0xC1C2C3C4, 31: 0xD1D2D3D4}
        after = {5: 0x44332211, 28: 0x11000000, 29: 0xA1A2A3A4, 30: 0xB1B2B3B4, 31: 0xC1C2C3C4}
        changed = lay(0x3001, (0x44, 0x33, 0x22, 0x11))
        for number in range(4):
            changed.update(lay(0x3008 + 4 * number, bytes_of(before[28 + number])))
        self.check(4, words, 4, 0, before, after, None, changed)

    def test_bytes_copied(self):
        words = [plain(35, 5, 3, 1), plain(39, 5, 4, 1), conditional(16, 0, -8), CALL]
        data = [7, 0, 255, 7, 1, 2, 3, 0, 9]
        before = {3: 0x2FFF, 4: 65531, "ctr": 9}
        after = {3: 0x3008, 4: 65540, 5: 9, "ctr": 0, "pc": PC + 16}
        old = lay(0x3000, data)
        self.check(1000, words, 28, 1, before, after, old, real_changes(old, lay(65532, data)))

    def test_a_table_that_grows_from_itself(self):
        """Each number of four bytes is the sum of the two ahead of it."""
        words = [plain(32, 5, 3, 0), plain(32, 6, 3, 4), three(31, 5, 5, 6, 266), plain(36, 5, 3, 8),
                 plain(14, 3, 3, 4), conditional(16, 0, -20), CALL]
        row = [0, 1]
        while len(row) < 32:
            row.append(row[-1] + row[-2])
        old = lay_words(0x3001, row[:2])
        before = {3: 0x3001, "ctr": 30}
        after = {3: 0x3001 + 120, 5: row[31], 6: row[30], "ctr": 0, "pc": PC + 28}
        self.check(1000, words, 181, 1, before, after, old, real_changes(old, lay_words(0x3001, row)))

    def test_a_count_in_xer(self):
        words = [three(31, 9, 1, 0, 467), three(31, 3, 0, 8, 661), three(31, 20, 0, 8, 533)]
        before = {3: 0x01020304, 4: 0x05060708, 8: 0x3003, 9: 6}
        after = {"xer": 6, 20: 0x01020304, 21: 0x05060000}
        self.check(3, words, 3, 0, before, after, None, lay(0x3003, (1, 2, 3, 4, 5, 6)))


class WrittenOver(RunCase):
    def changed(self, words, new):
        old = lay_words(SPOT, words)
        return real_changes(old, new)

    def test_the_next_instruction(self):
        for word in (plain(14, 6, 0, 77), CALL, TRAP) + NONES:
            words = [plain(36, 5, 4, 4), COUNT_UP, COUNT_UP]
            new = lay_words(SPOT + 4, [word])
            before = {3: 1, 4: PC, 5: word, "held": 1}
            changed = self.changed(words, new)
            if word == CALL:
                self.check(900, words, 2, 1, before, {}, None, changed)
            elif word == TRAP:
                self.check(900, words, 1, 2, before, {}, None, changed)
            elif word in NONES:
                self.check(900, words, 1, 3, before, {}, None, changed)
            else:
                self.check(3, words, 3, 0, before, {3: 2, 6: 77}, None, changed)

    def test_one_byte_of_it(self):
        words = [plain(38, 5, 4, 7), plain(14, 3, 3, 1)]
        new = {SPOT + 7: 9}
        self.check(2, words, 2, 0, {3: 1, 4: PC, 5: 9}, {3: 10}, None, new)

    def test_two_at_once(self):
        """Two bytes of each: the first adds 5 then, the second is another op with the immediate 1."""
        words = [plain(36, 5, 4, 6), plain(14, 3, 3, 1), plain(14, 3, 3, 1)]
        new = lay(SPOT + 6, [0, 5] + bytes_of(plain(15, 3, 3, 1))[:2])
        number = int.from_bytes(bytes([0, 5] + bytes_of(plain(15, 3, 3, 1))[:2]), "big")
        self.check(3, words, 3, 0, {3: 1, 4: PC, 5: number}, {3: 65542}, None, self.changed(words, new))

    def test_one_that_was_done_already(self):
        """A loop that makes the number greater that its own first instruction adds."""
        words = [plain(14, 3, 3, 1), plain(32, 5, 4, 0), plain(14, 5, 5, 1), plain(36, 5, 4, 0),
                 conditional(16, 0, -16), CALL]
        before = {3: 0, 4: PC, "ctr": 10}
        after = {3: 55, 5: plain(14, 3, 3, 11), "ctr": 0, "pc": PC + 24}
        self.check(1000, words, 51, 1, before, after, None, {SPOT + 3: 11})

    def test_one_that_was_done_becomes_none(self):
        words = [COUNT_UP, plain(36, 5, 4, 0), branch(-8)]
        changed = self.changed(words, lay(SPOT, (0, 0, 0, 0)))
        self.check(900, words, 3, 3, {3: 1, 4: PC, 5: 0}, {3: 2, "pc": PC}, None, changed)

    def test_one_that_was_done_becomes_another(self):
        """Round by round the first instruction is what stands next in a row: a sum, a product, a gate, a call."""
        row = [plain(7, 3, 3, 3), plain(24, 3, 3, 64), plain(27, 3, 3, 1), CALL]
        words = [COUNT_UP, plain(33, 5, 6, 4), plain(36, 5, 4, 0), branch(-12)]
        before = {3: 1, 4: PC, 6: 0x2FFC}
        after = {3: 65536 + 64 + 6, 5: CALL, 6: 0x300C, "pc": PC + 4}
        changed = self.changed(words, lay_words(SPOT, [CALL]))
        self.check(900, words, 17, 1, before, after, lay_words(0x3000, row), changed)

    def test_a_block_of_zeros(self):
        words = [COUNT_UP, three(31, 0, 0, 4, 1014), COUNT_UP]
        changed = self.changed(words, {SPOT + offset: 0 for offset in range(32)})
        self.check(900, words, 2, 3, {3: 1, 4: PC + 30}, {3: 2}, None, changed)

    def test_several(self):
        words = [plain(47, 28, 4, 4)] + [COUNT_UP] * 4 + [CALL]
        laid = [plain(14, 3, 3, 2), IDLE, plain(14, 3, 3, 4), plain(14, 3, 3, 8)]
        before = dict(zip((28, 29, 30, 31), laid))
        before.update({3: 0, 4: PC})
        changed = self.changed(words, lay_words(SPOT + 4, laid))
        self.check(900, words, 6, 1, before, {3: 14}, None, changed)

    def test_the_same_place_by_another_pc(self):
        """pc is 65536 further, and the instructions are the same."""
        words = [COUNT_UP, plain(38, 5, 4, 3), three(19, 20, 0, 0, 16)]
        before = {3: 0, 4: PC, 5: 100, "lr": PC + 0x50000}
        after = {3: 101, "pc": PC + 0x50004}
        self.check(4, words, 4, 0, before, after, None, {SPOT + 3: 100})


class RoundTheEnd(RunCase):
    def test_from_the_last_place_to_the_first(self):
        for above in (0, 0x10000, 0x77770000, 0x7FFF0000):
            before = {3: 0, "pc": above + 65528}
            after = {3: 4, "pc": above + 65528 + 16}
            self.check(4, [COUNT_UP] * 4, 4, 0, before, after)
            self.check(900, [COUNT_UP] * 4 + [CALL], 5, 1, before, {3: 4, "pc": above + 65528 + 20})
            self.check(900, [COUNT_UP] * 4, 4, 3, before, after)
            self.check(900, [COUNT_UP] * 2 + [TRAP], 2, 2, before, {3: 2, "pc": above + 65536})

    def test_from_the_last_pc_to_0(self):
        before = {3: 0, "pc": WORD - 3}
        self.check(1, [COUNT_UP] * 3, 1, 0, before, {3: 1, "pc": 0})
        self.check(3, [COUNT_UP] * 3, 3, 0, before, {3: 3, "pc": 8})
        self.check(3, [COUNT_UP] * 3, 3, 0, {3: 0, "pc": WORD}, {3: 3, "pc": 8})
        self.check(900, [COUNT_UP], 1, 3, before, {3: 1, "pc": 0})
        self.check(900, [COUNT_UP, TRAP], 1, 2, before, {3: 1, "pc": 0})
        self.check(900, [CALL, TRAP], 1, 1, before, {"pc": 0})

    def test_lr_behind_the_last_pc(self):
        words = [branch(8, 0, 1), CALL, COUNT_UP, RETURN]
        self.check(900, words, 4, 1, {3: 0, "pc": WORD - 3}, {3: 1, "lr": 0, "pc": 4})

    def test_branches_over_the_end(self):
        words = [COUNT_UP, conditional(16, 0, -4), CALL]
        before = {3: 0, "ctr": 6, "pc": WORD - 3}
        self.check(900, words, 13, 1, before, {3: 6, "ctr": 0, "pc": 8})
        before = {3: 0, "ctr": 6, "pc": 65532}
        self.check(900, words, 13, 1, before, {3: 6, "ctr": 0, "pc": 65544})

    def test_all_of_memory(self):
        """As many instructions as may be handed over, and out of them."""
        places = list(range(60000))
        given = bytes_of(COUNT_UP) * 15000
        state = changed_state(start(), {3: 0, "pc": 0})
        answer = self.call_twice(run, 20000, state, places, given)
        self.assertEqual(answer, [15000, 3] + changed_state(state, {3: 15000, "pc": 60000}))

    def test_stored_over_the_end_and_loaded_again(self):
        words = [plain(36, 3, 0, -1), plain(32, 5, 0, -1), plain(40, 6, 0, -1), plain(46, 30, 0, -3)]
        after = {5: 0x01020304, 6: 0x0102, 30: 0x00000102, 31: 0x03040000}
        self.check(4, words, 4, 0, {3: 0x01020304}, after, None, {65535: 1, 0: 2, 1: 3, 2: 4})

    def test_a_store_over_the_end_and_run_there(self):
        words = [plain(36, 5, 4, 0), COUNT_UP, COUNT_UP, CALL]
        number = 9 << 16 | plain(14, 3, 3, 0) >> 16
        before = {3: 0, 4: 65534, 5: number, "pc": 65528}
        old = lay_words(65528, words)
        changed = real_changes(old, lay(65534, bytes_of(number)))
        self.check(3, words, 3, 0, before, {3: 10, "pc": 65540}, None, changed)


class HandedOn(RunCase):
    def test_held_and_stored_twice(self):
        words = [three(31, 5, 0, 4, 20), three(31, 3, 0, 4, 150, 1), three(31, 6, 0, 7, 150, 1)]
        memory = lay(0x3000, (1, 2, 3, 4))
        before = {3: 0x0A0B0C0D, 4: 0x3000, 6: WORD, 7: 0x3100, "held": 0, "cr": WORD, "xer": 0}
        changed = lay(0x3000, (10, 11, 12, 13))
        self.check(1, words, 1, 0, before, {5: 0x01020304, "held": 1}, memory)
        self.check(2, words, 2, 0, before, {5: 0x01020304, "cr": 0x2FFFFFFF}, memory, changed)
        self.check(3, words, 3, 0, before, {5: 0x01020304, "cr": 0x0FFFFFFF}, memory, changed)

    def test_held_over_others(self):
        words = [three(31, 5, 0, 4, 20), COUNT_UP, plain(36, 3, 8, 0), branch(4), three(31, 3, 0, 7, 150, 1), CALL]
        before = {3: 1, 4: 0x3000, 7: 0x3100, 8: 0x3200, "held": 0, "cr": 0, "xer": SO}
        self.check(9, words, 6, 1, before, {3: 2, 5: 0, "cr": 0x30000000}, None, {0x3103: 2, 0x3203: 2})

    def test_not_held_by_a_run_before(self):
        words = [three(31, 3, 0, 4, 150, 1)]
        before = {3: 1, 4: 0x3000, "held": 0, "cr": 0, "xer": 0}
        self.check(1, [three(31, 5, 0, 4, 20)], 1, 0, before, {5: 0, "held": 1})
        self.check(1, words, 1, 0, before)

    def test_counted_up_while_held(self):
        words = [three(31, 5, 0, 4, 20), plain(14, 5, 5, 1), three(31, 5, 0, 4, 150, 1), conditional(4, 2, -12),
                 conditional(16, 0, -16), CALL]
        before = {4: 0x3002, "ctr": 7, "cr": 0, "xer": 0, "held": 5}
        after = {5: 0x10006, "ctr": 0, "cr": 0x20000000, "held": 0, "pc": PC + 24}
        memory = lay(0x3002, (0, 0, 255, 255))
        self.check(900, words, 36, 1, before, after, memory, lay(0x3003, (1, 0, 6)))

    def test_the_carry(self):
        """Sums and differences of 64 and 96 bits, a number of 32 at a time."""
        low, middle, high = 0xFFFFFFFF, 0xFFFFFFFF, 0x00000001
        before = {3: low, 4: middle, 5: high, 6: 1, 7: 0, 8: 5, "xer": 0}
        words = [three(31, 9, 3, 6, 10), three(31, 10, 4, 7, 138), three(31, 11, 5, 8, 138)]
        self.check(1, words, 1, 0, before, {9: 0, "xer": CA})
        self.check(2, words, 2, 0, before, {9: 0, 10: 0, "xer": CA})
        self.check(3, words, 3, 0, before, {9: 0, 10: 0, 11: 7, "xer": 0})
        words = [three(31, 9, 6, 7, 8), three(31, 10, 7, 7, 136), three(31, 11, 5, 8, 136)]
        self.check(3, words, 3, 0, before, {9: WORD, 10: WORD, 11: 3, "xer": CA})
        self.check(2, words, 2, 0, before, {9: WORD, 10: WORD})

    def test_the_carry_through_others(self):
        words = [plain(12, 9, 3, 1), COUNT_UP, plain(36, 3, 4, 0), branch(4), three(31, 10, 5, 0, 202),
                 three(31, 11, 5, 0, 234)]
        before = {3: WORD, 4: 0x3000, 5: 9, "xer": 0}
        self.check(5, words, 5, 0, before, {3: 0, 9: 0, 10: 10, "xer": 0})
        self.check(6, words, 6, 0, before, {3: 0, 9: 0, 10: 10, 11: 8, "xer": CA})

    def test_the_carry_of_a_shift(self):
        words = [three(31, 3, 9, 1, 824), three(31, 10, 5, 0, 202)]
        self.check(2, words, 2, 0, {3: WORD, 5: 1, "xer": 0}, {9: WORD, 10: 2, "xer": 0})
        self.check(2, words, 2, 0, {3: WORD - 1, 5: 1, "xer": CA}, {9: WORD, 10: 1, "xer": 0})

    def test_overflow_summed(self):
        """Once it overflowed, each record and each comparison shows it, until it is moved away."""
        add = three(31, 9, 3, 4, 778, 1)
        words = [add, three(31, 10, 4, 4, 778, 1), plain(11, 4, 4, 1), three(31, 4, 11, 4, 28, 1),
                 three(31, 8, 0, 0, 512), plain(11, 4, 4, 1)]
        before = {3: 2 ** 31 - 1, 4: 1, "xer": 0, "cr": 0}
        after = {9: 2 ** 31, "xer": SO | OV, "cr": 0x90000000}
        self.check(1, words, 1, 0, before, after)
        after.update({10: 2, "xer": SO, "cr": 0x50000000})
        self.check(2, words, 2, 0, before, after)
        after.update({"cr": 0x53000000})
        self.check(3, words, 3, 0, before, after)
        after.update({11: 1})
        self.check(4, words, 4, 0, before, after)
        after.update({"xer": 0, "cr": 0x53800000})
        self.check(5, words, 5, 0, before, after)
        after.update({"cr": 0x52800000})
        self.check(6, words, 6, 0, before, after)


class TellingBytes(RunCase):
    def test_the_last_of_several_once(self):
        words = [plain(38, 3, 4, 0), COUNT_UP, conditional(16, 0, -8), CALL]
        before = {3: 0, 4: 0x3000, "ctr": 5}
        self.check(900, words, 16, 1, before, {3: 5, "ctr": 0, "pc": PC + 16}, None, {0x3000: 4})

    def test_written_back_is_not_told(self):
        words = [plain(36, 3, 4, 0), plain(36, 5, 4, 0)]
        memory = lay(0x3000, (1, 2, 3, 4))
        before = {3: 0x09080704, 4: 0x3000, 5: 0x01020304}
        self.check(1, words, 1, 0, before, {}, memory, {0x3000: 9, 0x3001: 8, 0x3002: 7})
        self.check(2, words, 2, 0, before, {}, memory)
        before[5] = 0x01080304
        self.check(2, words, 2, 0, before, {}, memory, {0x3001: 8})

    def test_back_to_0_is_not_told(self):
        words = [plain(36, 3, 4, 0), three(31, 0, 4, 5, 1014), plain(38, 3, 4, 40), plain(38, 6, 4, 40)]
        before = {3: WORD, 4: 0x3000, 5: 0, 6: 0}
        self.check(1, words, 1, 0, before, {}, None, lay(0x3000, [255] * 4))
        self.check(2, words, 2, 0, before)
        self.check(3, words, 3, 0, before, {}, None, {0x3028: 255})
        self.check(4, words, 4, 0, before)

    def test_an_instruction_written_back(self):
        words = [plain(36, 5, 4, 8), plain(36, 6, 4, 8), COUNT_UP]
        self.check(3, words, 3, 0, {3: 1, 4: PC, 5: 0, 6: COUNT_UP}, {3: 2})

    def test_order_of_places(self):
        words = [plain(38, 3, 0, place) for place in (0x7000, 0x10, 0x3001, 0x3000, 0x11, 0x2FFF)]
        words += [plain(44, 3, 0, -1), plain(38, 3, 0, -9)]
        changed = {place: 7 for place in (0, 0x10, 0x11, 0x2FFF, 0x3000, 0x3001, 0x7000, 65527)}
        self.check(8, words, 8, 0, {3: 7}, {}, None, changed)
        state, answer = self.ask(8, words, {3: 7})
        self.assertEqual(answer[40:], [0, 7, 0x10, 7, 0x11, 7, 0x2FFF, 7, 0x3000, 7, 0x3001, 7, 0x7000, 7, 65527, 7])

    def test_round_the_end(self):
        words = [plain(36, 3, 0, -2), plain(36, 3, 0, -3)]
        changed = {65533: 1, 65534: 2, 65535: 3, 0: 4, 1: 4}
        self.check(2, words, 2, 0, {3: 0x01020304}, {}, None, changed)

    def test_against_the_latest_byte_handed_in(self):
        state = changed_state(start(), {3: 0x11, "pc": 0})
        spot = [0, 1, 2, 3]
        word = bytes_of(plain(38, 3, 0, 0x3000))
        then = changed_state(state, {"pc": 4})
        for given, changed in (([0x11, 0x22], [0x3000, 0x11]), ([0x22, 0x11], [])):
            answer = self.call_twice(run, 1, state, [0x3000] + spot + [0x3000], [given[0]] + word + [given[1]])
            self.assertEqual(answer, [1, 0] + then + changed)

    def test_all_of_memory(self):
        """Every byte of memory is written over by 1, but the program itself, which stands at its end."""
        words = [plain(39, 3, 4, 1), conditional(16, 0, -4), CALL]
        pc = 65536 - 12
        state = changed_state([0] * 38, {3: 1, 4: WORD, "ctr": pc, "pc": pc})
        memory = lay_words(pc, words)
        answer = self.call_twice(run, 1000000, state, list(memory), list(memory.values()))
        expected = changed_state(state, {4: pc - 1, "ctr": 0, "pc": 65536})
        bytes_told = [number for place in range(pc) for number in (place, 1)]
        self.assertEqual(answer, [2 * pc + 1, 1] + expected + bytes_told)
