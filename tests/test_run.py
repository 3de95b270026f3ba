"""How many instructions a run does, why it ends, and what it leaves as it was."""

import time

from highfirst.desk import run, step

from tests.support import CALL, IDLE, NONES, NUMBERS_OF_19, NUMBERS_OF_31, PC, TRAP, WORD, RunCase, branch
from tests.support import bytes_of, changed_state, conditional, lay, lay_words, plain, start, three

MOST = 1000000
COUNT_UP = plain(14, 3, 3, 1)


def in_runs_way(answer, state):
    """What run of one step answers where step answers this."""
    if answer == [-1]:
        return [0, 3] + state
    return [0 if answer[0] == 2 else 1] + answer


class NoSteps(RunCase):
    def test_nothing_is_done(self):
        for word in (IDLE, COUNT_UP, plain(36, 3, 4, 0), CALL, TRAP, branch(8, 0, 1)) + NONES:
            for pc in (0, 1, 2, 3, PC, PC + 3, WORD - 3, WORD):
                self.check(0, [word], 0, 0, {"pc": pc})

    def test_every_bit_of_the_state_stays(self):
        for state in ([0] * 38, [WORD] * 38, list(range(38)), [1 << number % 32 for number in range(38)]):
            for places, given in (([], []), ([0, 1, 2, 3], bytes_of(CALL)), ([5, 5, 65535], [1, 2, 255])):
                self.assertEqual(self.call_twice(run, 0, state, places, given), [0, 0] + state)


class OneStep(RunCase):
    def check_one(self, word, before):
        memory = lay(0x3000, range(1, 200))
        state = changed_state(start(), before)
        whole = dict(memory)
        whole.update(lay(state[36] // 4 * 4, bytes_of(word)))
        alone = step(state, list(whole), list(whole.values()))
        answer = self.ask(1, [word], before, memory)[1]
        self.check_answer(answer, in_runs_way(alone, state), 2, f"{word:08x} with {before}")

    def check_words(self, words):
        for word in words:
            for low, held in ((0, 1), (3, 0)):
                self.check_one(word, {4: 0x3001, 5: 6, 9: 0x3030, "pc": PC + low, "held": held})

    def test_ops(self):
        for op in range(64):
            self.check_words((plain(op, 3, 4, 8), plain(op, 31, 0, 0x3002), plain(op, 0, 9, 0xFFFF), op << 26))

    def test_numbers_of_19(self):
        for number in range(1024):
            self.check_words([three(19, 4, 8, 3, number, r) for r in (0, 1)])
            if number in NUMBERS_OF_19:
                self.check_words([three(19, d, 31, 7, number, r) for d in (0, 20, 31) for r in (0, 1)])

    def test_numbers_of_31(self):
        for number in range(1024):
            self.check_words([three(31, 3, 4, 5, number, r) for r in (0, 1)])
            if number in NUMBERS_OF_31:
                self.check_words([three(31, d, 9, 0, number, r) for d in (0, 9, 31) for r in (0, 1)])
                self.check_words([three(31, 3, a, 0, number, r) for a in (0, 1, 8) for r in (0, 1)])

    def test_told(self):
        self.check(1, [COUNT_UP], 1, 0, {3: 5}, {3: 6})
        self.check(1, [COUNT_UP], 1, 0, {3: 5, "pc": PC + 3}, {3: 6})
        self.check(1, [plain(38, 3, 4, 0)], 1, 0, {3: 5, 4: 0x3000}, {}, None, {0x3000: 5})
        self.check(1, [branch(-8, 0, 1)], 1, 0, None, {"pc": PC - 8, "lr": PC + 4})
        self.check(1, [CALL], 1, 1)
        self.check(1, [TRAP], 0, 2)
        self.check(1, [0], 0, 3)


class HowMany(RunCase):
    def test_the_most_is_done(self):
        self.check(MOST, [branch(0)], MOST, 0, None, {"pc": PC})
        self.check(MOST - 1, [branch(0)], MOST - 1, 0, None, {"pc": PC})

    def test_the_most_may_end_early(self):
        self.check(MOST, [CALL], 1, 1)
        self.check(MOST, [TRAP], 0, 2)
        self.check(MOST, [0], 0, 3)
        self.check(MOST, [IDLE, CALL], 2, 1)

    def test_more_is_refused(self):
        words = (IDLE, CALL, TRAP, branch(0)) + NONES
        for steps in (MOST + 1, MOST + 2, 2 * MOST, 2 ** 31 - 1, 2 ** 31, WORD - 1, WORD):
            for word in words:
                self.assertEqual(self.call_twice(run, steps, [0] * 38, [0, 1, 2, 3], bytes_of(word)), [-3])
            for state in ([0] * 38, [WORD] * 38, start()):
                self.assertEqual(self.call_twice(run, steps, state, [], []), [-3])
            places = list(range(60000))
            self.assertEqual(self.call_twice(run, steps, start(), places, [255] * 60000), [-3])

    def test_reasonable_time(self):
        """A million instructions of several kinds; the bound is wide, as machines differ."""
        words = [plain(32, 5, 0, 0x3000), three(31, 5, 5, 3, 778, 1), plain(36, 5, 0, 0x3000), plain(11, 4, 5, 7),
                 21 << 26 | 5 << 21 | 6 << 16 | 3 << 11 | 31, three(31, 6, 7, 5, 316, 1), plain(44, 7, 8, 2),
                 three(19, 3, 4, 5, 193), plain(14, 3, 3, 1), conditional(16, 0, -36)]
        state = changed_state([0] * 38, {8: 0x4000, "ctr": 0})
        memory = lay_words(0, words)
        began = time.process_time()
        answer = run(MOST, state, list(memory), list(memory.values()))
        spent = time.process_time() - began
        self.assertEqual(answer[:2], [MOST, 0])
        self.assertEqual(answer[2 + 3], 100000)
        self.assertEqual(answer[2 + 5], 100000 * 99999 // 2 % 2 ** 32)
        self.assertEqual(answer[2 + 35], 2 ** 32 - 100000)
        self.assertLess(spent, 60)


class All(RunCase):
    def test_as_many_as_asked(self):
        for steps in range(6):
            after = {3: 10 + steps}
            self.check(steps, [COUNT_UP] * 10, steps, 0, {3: 10}, after)

    def test_what_follows_the_last_is_not_looked_at(self):
        for word in (CALL, TRAP, plain(36, 3, 4, 0)) + NONES:
            self.check(2, [COUNT_UP, COUNT_UP, word], 2, 0, {3: 10}, {3: 12})

    def test_low_bits_of_pc(self):
        for low in range(4):
            self.check(2, [COUNT_UP, COUNT_UP], 2, 0, {3: 10, "pc": PC + low}, {3: 12, "pc": PC + 8})


class Calls(RunCase):
    def test_it_is_counted_and_ends_the_run(self):
        for ahead in (0, 1, 2, 5):
            words = [COUNT_UP] * ahead + [CALL] + [COUNT_UP] * 5
            after = {3: 10 + ahead}
            for more in (1, 2, 5, 900, MOST - ahead):
                self.check(ahead + more, words, ahead + 1, 1, {3: 10}, after)
            self.check(ahead, words, ahead, 0, {3: 10}, after)

    def test_one_after_another(self):
        self.check(5, [CALL, CALL, CALL], 1, 1)

    def test_pc_is_behind_it(self):
        for low in range(4):
            self.check(3, [CALL, COUNT_UP], 1, 1, {"pc": PC + low}, {"pc": PC + 4})
        self.check(3, [CALL, COUNT_UP], 1, 1, {"pc": WORD - 3}, {"pc": 0})
        self.check(3, [COUNT_UP, CALL], 2, 1, {3: 1, "pc": WORD - 7}, {3: 2, "pc": 0})

    def test_what_was_stored_ahead_of_it(self):
        words = [plain(38, 3, 4, 0), CALL, plain(38, 3, 4, 1)]
        self.check(9, words, 2, 1, {3: 7, 4: 0x3000}, {}, None, {0x3000: 7})

    def test_no_lr(self):
        self.check(9, [17 << 26 | 3], 1, 1, {"lr": 8})


class Traps(RunCase):
    def test_it_is_not_counted(self):
        for ahead in (0, 1, 2, 5):
            words = [COUNT_UP] * ahead + [TRAP] + [COUNT_UP] * 5
            for more in (1, 2, 5, 900):
                self.check(ahead + more, words, ahead, 2, {3: 10}, {3: 10 + ahead})
            self.check(ahead, words, ahead, 0, {3: 10}, {3: 10 + ahead})

    def test_in_the_first_place(self):
        for pc in (0, 3, PC, PC + 1, PC + 2, PC + 3, WORD - 3, WORD):
            for steps in (1, 2, MOST):
                self.check(steps, [TRAP, COUNT_UP], 0, 2, {"pc": pc})
                self.check(steps, [three(31, 31, 4, 5, 4), COUNT_UP], 0, 2, {"pc": pc})

    def test_low_bits_behind_another(self):
        self.check(5, [COUNT_UP, TRAP], 1, 2, {3: 1, "pc": PC + 3}, {3: 2, "pc": PC + 4})

    def test_what_was_stored_ahead_of_it(self):
        words = [plain(38, 3, 4, 0), TRAP, plain(38, 3, 4, 1)]
        self.check(9, words, 1, 2, {3: 7, 4: 0x3000}, {}, None, {0x3000: 7})

    def test_one_that_comes_true(self):
        words = [COUNT_UP, plain(3, 4, 3, 7), branch(-8)]
        self.check(100, words, 19, 2, {3: 0}, {3: 7, "pc": PC + 4})
        self.check(19, words, 19, 0, {3: 0}, {3: 7, "pc": PC + 4})
        self.check(18, words, 18, 0, {3: 0}, {3: 6, "pc": PC})

    def test_one_that_does_not(self):
        self.check(3, [COUNT_UP, plain(3, 4, 3, 7), COUNT_UP], 3, 0, {3: 0}, {3: 2})


class NoInstruction(RunCase):
    def test_it_is_not_counted(self):
        for word in NONES:
            for ahead in (0, 1, 2, 5):
                words = [COUNT_UP] * ahead + [word] + [COUNT_UP] * 5
                for more in (1, 2, 5, 900):
                    self.check(ahead + more, words, ahead, 3, {3: 10, "held": 1}, {3: 10 + ahead})
                self.check(ahead, words, ahead, 0, {3: 10, "held": 1}, {3: 10 + ahead})

    def test_in_the_first_place(self):
        for pc in (0, 3, PC, PC + 1, PC + 2, PC + 3, WORD - 3, WORD):
            for word in NONES:
                for steps in (1, 2, MOST):
                    self.check(steps, [word, COUNT_UP], 0, 3, {"pc": pc})

    def test_low_bits_behind_another(self):
        for word in NONES:
            self.check(5, [COUNT_UP, word], 1, 3, {3: 1, "pc": PC + 3}, {3: 2, "pc": PC + 4})

    def test_no_memory(self):
        for state in ([0] * 38, [WORD] * 38, start()):
            self.assertEqual(self.call_twice(run, 5, state, [], []), [0, 3] + state)
            self.assertEqual(self.call_twice(run, MOST, state, [], []), [0, 3] + state)

    def test_what_was_stored_ahead_of_it(self):
        words = [plain(38, 3, 4, 0), 0, plain(38, 3, 4, 1)]
        self.check(9, words, 1, 3, {3: 7, 4: 0x3000}, {}, None, {0x3000: 7})

    def test_run_out_of_the_program(self):
        self.check(900, [COUNT_UP] * 7, 7, 3, {3: 0}, {3: 7})
        self.check(900, [branch(0x100)], 1, 3, None, {"pc": PC + 0x100})
        self.check(900, [branch(0x400, 1, 1)], 1, 3, None, {"pc": 0x400, "lr": PC + 4})
