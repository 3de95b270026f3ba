"""Numbers from memory and to it, one at a time; which bytes are told; what is held."""

import itertools

from highfirst.desk import step

from tests.support import EDGES, PC, SO, WORD, StepCase, bytes_of, changed_state, lay, plain, real_changes, start
from tests.support import three

# (number of bytes, with their sign)
LOADS = {32: (4, False), 34: (1, False), 40: (2, False), 42: (2, True)}
LOADS_BY_B = {23: (4, False), 87: (1, False), 279: (2, False), 343: (2, True)}
UPDATES_OF_31 = {23: 55, 87: 119, 279: 311, 343: 375, 151: 183, 215: 247, 407: 439}
STORES = {36: 4, 38: 1, 44: 2}
STORES_BY_B = {151: 4, 215: 1, 407: 2}
REVERSED_LOADS = {534: 4, 790: 2}
REVERSED_STORES = {662: 4, 918: 2}

DATA = ((0, 0, 0, 0), (0x7F, 0xFF, 0xFF, 0xFF), (0x80, 0, 0, 0), (0xFF, 0xFF, 0xFF, 0xFF), (0, 0, 0, 1),
        (0x12, 0x34, 0x56, 0x78), (0x80, 0x01, 0xFE, 0x7F))
PLACES = (0, 1, 2, 3, 0x2000, 0x2001, 0x7FFF, 0x8000, 65532, 65533, 65534, 65535)


def whole(values, size, with_sign=False):
    return int.from_bytes(bytes(values[:size]), "big", signed=with_sign) % 2 ** 32


def around(place, values):
    """These bytes, and others that aren't 0 ahead of them and behind them."""
    return lay(place - 3, (0xA5, 0x5A, 0xC3) + tuple(values) + (0x3C, 0x96, 0x69))


OLD = (0x12, 0x34, 0, 0xFF)


class Loads(StepCase):
    def test_by_immediate(self):
        for op, row in LOADS.items():
            for values in DATA:
                for place in PLACES:
                    expected = whole(values, *row)
                    memory = around(place, values)
                    self.check(plain(op, 3, 4, 0), {4: place}, {3: expected}, memory)
                    self.check(plain(op + 1, 3, 4, 0), {4: place}, {3: expected}, memory)
                    self.check(plain(op, 3, 4, 0xFFFF), {4: place + 1}, {3: expected}, memory)
                    self.check(plain(op + 1, 3, 4, 0xFFFF), {4: place + 1}, {3: expected, 4: place}, memory)

    def test_by_b(self):
        for number, row in LOADS_BY_B.items():
            for values in DATA:
                for place in PLACES:
                    expected = whole(values, *row)
                    memory = around(place, values)
                    before = {4: 0xFFFFFF00, 5: 0x100 + place}
                    self.check(three(31, 3, 4, 5, number), before, {3: expected}, memory)
                    self.check(three(31, 3, 4, 5, UPDATES_OF_31[number]), before, {3: expected, 4: place}, memory)

    def test_lowest_first(self):
        for number, size in REVERSED_LOADS.items():
            for values in DATA:
                for place in PLACES:
                    expected = int.from_bytes(bytes(values[:size]), "little")
                    before = {4: place - 1 & WORD, 5: 1}
                    self.check(three(31, 3, 4, 5, number), before, {3: expected}, around(place, values))

    def test_told(self):
        memory = lay(0x3000, (0x89, 0xAB, 0xCD, 0xEF))
        before = {4: 0x3010}
        self.check(plain(32, 3, 4, -16), before, {3: 0x89ABCDEF}, memory)
        self.check(plain(34, 3, 4, -16), before, {3: 0x89}, memory)
        self.check(plain(40, 3, 4, -15), before, {3: 0xABCD}, memory)
        self.check(plain(42, 3, 4, -15), before, {3: 0xFFFFABCD}, memory)
        self.check(plain(32, 3, 4, 0x7FFF), {4: 0x3000 - 0x7FFF & WORD}, {3: 0x89ABCDEF}, memory)
        self.check(plain(32, 3, 4, -0x8000), {4: 0xB000}, {3: 0x89ABCDEF}, memory)
        before = {4: 0x2000, 5: 0x1000}
        self.check(three(31, 3, 4, 5, 534), before, {3: 0xEFCDAB89}, memory)
        self.check(three(31, 3, 4, 5, 790), before, {3: 0xAB89}, memory)

    def test_places_are_modulo_65536_and_numbers_modulo_2_to_the_32(self):
        memory = lay(0x3000, (1, 2, 3, 4))
        self.check(plain(33, 3, 4, 4), {4: 0x77772FFC}, {3: 0x01020304, 4: 0x77773000}, memory)
        self.check(plain(33, 3, 4, 0x3004), {4: WORD - 3}, {3: 0x01020304, 4: 0x3000}, memory)
        self.check(plain(33, 3, 4, -0x4000), {4: 0x7000}, {3: 0x01020304, 4: 0x3000}, memory)
        self.check(plain(33, 3, 4, -0x1000), {4: 0}, {3: 0, 4: 0xFFFFF000}, memory)
        before = {4: 0x80003000, 5: 0x80000000}
        self.check(three(31, 3, 4, 5, 55), before, {3: 0x01020304, 4: 0x3000}, memory)

    def test_edges_of_the_numbers(self):
        values = (0x91, 0xA2, 0xB3, 0xC4)
        for a, b in itertools.product(EDGES, repeat=2):
            place = (a + b) % 2 ** 32
            memory = around(place, values)
            for number, row in LOADS_BY_B.items():
                after = {3: whole(values, *row), 4: place}
                self.check(three(31, 3, 4, 5, UPDATES_OF_31[number]), {4: a, 5: b}, after, memory)
            for op, row in LOADS.items():
                near = (a + 0x7FFF) % 2 ** 32
                after = {3: whole(values, *row), 4: near}
                self.check(plain(op + 1, 3, 4, 0x7FFF), {4: a}, after, around(near, values))

    def test_a_0_is_nothing(self):
        memory = lay(0x40, (0x81, 2, 3, 4))
        for op, row in LOADS.items():
            self.check(plain(op, 3, 0, 0x40), {0: 0x1000}, {3: whole((0x81, 2, 3, 4), *row)}, memory)
        for number, row in LOADS_BY_B.items():
            expected = whole((0x81, 2, 3, 4), *row)
            self.check(three(31, 3, 0, 5, number), {0: 0x1000, 5: 0x40}, {3: expected}, memory)
        self.check(three(31, 3, 0, 5, 534), {0: 0x1000, 5: 0x40}, {3: 0x04030281}, memory)
        self.check(three(31, 3, 0, 5, 790), {0: 0x1000, 5: 0x40}, {3: 0x0281}, memory)
        self.check(three(31, 3, 4, 0, 23), {0: 0x20, 4: 0x20}, {3: 0x81020304}, memory)

    def test_one_place_for_all(self):
        memory = lay(0x40, (1, 2, 3, 4))
        self.check(plain(32, 4, 4, 0), {4: 0x40}, {4: 0x01020304}, memory)
        self.check(three(31, 4, 4, 4, 23), {4: 0x20}, {4: 0x01020304}, memory)
        self.check(three(31, 3, 4, 4, 55), {4: 0x20}, {3: 0x01020304, 4: 0x40}, memory)
        self.check(three(31, 3, 4, 3, 55), {3: 0x30, 4: 0x10}, {3: 0x01020304, 4: 0x40}, memory)
        self.check(plain(33, 0, 4, 0), {4: 0x40}, {0: 0x01020304}, memory)

    def test_a_cannot_be_both(self):
        for op in (33, 35, 41, 43):
            for d in (0, 3, 31):
                self.check_none(plain(op, d, 0, 8))
                self.check_none(plain(op, d, d, 8))
        for number in (55, 119, 311, 375):
            for d in (0, 3, 31):
                self.check_none(three(31, d, 0, 5, number))
                self.check_none(three(31, d, d, 5, number))


class Stores(StepCase):
    def check_store(self, word, before, after, old, new):
        self.check(word, before, after, old, real_changes(old, new))

    def test_by_immediate(self):
        for op, size in STORES.items():
            for values in DATA:
                for place in PLACES:
                    value = whole(values, 4)
                    new = lay(place, values[4 - size:])
                    for old in ({}, around(place, OLD)):
                        self.check_store(plain(op, 3, 4, 5), {3: value, 4: place - 5 & WORD}, {}, old, new)
                        before = {3: value, 4: place - 5 & WORD}
                        self.check_store(plain(op + 1, 3, 4, 5), before, {4: place}, old, new)

    def test_by_b(self):
        for number, size in STORES_BY_B.items():
            for values in DATA:
                for place in PLACES:
                    value = whole(values, 4)
                    new = lay(place, values[4 - size:])
                    before = {3: value, 4: 0xFFFFFF00, 5: 0x100 + place}
                    for old in ({}, around(place, OLD)):
                        self.check_store(three(31, 3, 4, 5, number), before, {}, old, new)
                        self.check_store(three(31, 3, 4, 5, UPDATES_OF_31[number]), before, {4: place}, old, new)

    def test_lowest_first(self):
        for number, size in REVERSED_STORES.items():
            for values in DATA:
                for place in PLACES:
                    new = lay(place, list(reversed(values))[:size])
                    before = {3: whole(values, 4), 4: place - 1 & WORD, 5: 1}
                    for old in ({}, around(place, OLD)):
                        self.check_store(three(31, 3, 4, 5, number), before, {}, old, new)

    def test_told(self):
        before = {3: 0x89ABCDEF, 4: 0x3000, 5: 0x10}
        self.check(plain(36, 3, 4, 0), before, {}, None, lay(0x3000, (0x89, 0xAB, 0xCD, 0xEF)))
        self.check(plain(38, 3, 4, 0), before, {}, None, {0x3000: 0xEF})
        self.check(plain(44, 3, 4, 1), before, {}, None, {0x3001: 0xCD, 0x3002: 0xEF})
        self.check(three(31, 3, 4, 5, 662), before, {}, None, lay(0x3010, (0xEF, 0xCD, 0xAB, 0x89)))
        self.check(three(31, 3, 4, 5, 918), before, {}, None, {0x3010: 0xEF, 0x3011: 0xCD})

    def test_edges_of_the_numbers(self):
        for value, a, b in itertools.product(EDGES, repeat=3):
            place = (a + b) % 2 ** 32
            before = {3: value, 4: a, 5: b}
            for number, size in STORES_BY_B.items():
                new = lay(place, bytes_of(value)[4 - size:])
                old = around(place, OLD)
                self.check_store(three(31, 3, 4, 5, UPDATES_OF_31[number]), before, {4: place}, old, new)

    def test_round_the_end(self):
        changed = {65534: 0x11, 65535: 0x22, 0: 0x33, 1: 0x44}
        self.check(plain(36, 3, 4, 0), {3: 0x11223344, 4: 65534}, {}, None, changed)
        self.check(plain(37, 3, 4, -2), {3: 0x11223344, 4: 0}, {4: WORD - 1}, None, changed)
        self.check(plain(37, 3, 4, -2), {3: 0x11223344, 4: 0x50000}, {4: 0x4FFFE}, None, changed)
        self.check(plain(44, 3, 4, 1), {3: 0x11223344, 4: 65534}, {}, None, {65535: 0x33, 0: 0x44})

    def test_real_changes_alone_are_told(self):
        old = lay(0x3000, (0x11, 0x99, 0x33, 0x99, 0x55))
        changed = {0x3001: 0x22, 0x3003: 0x44}
        self.check(plain(36, 3, 4, 0), {3: 0x11223344, 4: 0x3000}, {}, old, changed)
        self.check(plain(36, 3, 4, 0), {3: 0x11993399, 4: 0x3000}, {}, old, {})
        self.check(plain(36, 3, 4, 0), {3: 0x00FF0000, 4: 0x3100}, {}, old, {0x3101: 0xFF})
        self.check(plain(36, 3, 4, 0), {3: 0, 4: 0x3000}, {}, old, lay(0x3000, (0, 0, 0, 0)))
        self.check(plain(36, 3, 4, 0), {3: 0, 4: 0x3100}, {}, {0x3100: 0}, {})

    def test_over_the_instruction_itself(self):
        word = plain(36, 3, 4, 0)
        new = (0x38, 0x60, 0, 1)
        changed = {PC % 65536 + offset: byte for offset, byte in enumerate(new) if byte != bytes_of(word)[offset]}
        self.check(word, {3: whole(new, 4), 4: PC}, {}, None, changed)

    def test_a_0_is_nothing(self):
        before = {0: 0x1000, 3: 0xA1A2A3A4, 5: 0x40}
        for op, size in STORES.items():
            new = lay(0x40, (0xA1, 0xA2, 0xA3, 0xA4)[4 - size:])
            self.check(plain(op, 3, 0, 0x40), before, {}, None, new)
        for number, size in STORES_BY_B.items():
            new = lay(0x40, (0xA1, 0xA2, 0xA3, 0xA4)[4 - size:])
            self.check(three(31, 3, 0, 5, number), before, {}, None, new)
        self.check(three(31, 3, 0, 5, 662), before, {}, None, lay(0x40, (0xA4, 0xA3, 0xA2, 0xA1)))
        self.check(three(31, 3, 0, 5, 918), before, {}, None, lay(0x40, (0xA4, 0xA3)))
        self.check(plain(36, 0, 4, 0), {0: 0xA1A2A3A4, 4: 0x40}, {}, None, lay(0x40, (0xA1, 0xA2, 0xA3, 0xA4)))

    def test_a_may_be_d(self):
        for op, size in STORES.items():
            new = lay(0x11223348, (0x11, 0x22, 0x33, 0x44)[4 - size:])
            self.check(plain(op + 1, 4, 4, 4), {4: 0x11223344}, {4: 0x11223348}, None, new)
        for number, size in STORES_BY_B.items():
            new = lay(0x11223348, (0x11, 0x22, 0x33, 0x44)[4 - size:])
            word = three(31, 4, 4, 5, UPDATES_OF_31[number])
            self.check(word, {4: 0x11223344, 5: 4}, {4: 0x11223348}, None, new)

    def test_a_0_cannot_be_the_place(self):
        for d in (0, 3, 31):
            for op in (37, 39, 45):
                self.check_none(plain(op, d, 0, 8))
            for number in (183, 247, 439):
                self.check_none(three(31, d, 0, 5, number))


class Held(StepCase):
    def test_load(self):
        memory = lay(0x3001, (0x81, 2, 3, 4))
        for held in (0, 1, 2, WORD):
            before = {4: 0x3000, 5: 1, "held": held}
            self.check(three(31, 3, 4, 5, 20), before, {3: 0x81020304, "held": 1}, memory)
        before = {0: 0x50, 5: 0x3001, "held": 0}
        self.check(three(31, 3, 0, 5, 20), before, {3: 0x81020304, "held": 1}, memory)
        self.check(three(31, 5, 5, 5, 20), {5: 0, "held": 0}, {5: 0, "held": 1}, {})
        self.check(three(31, 3, 4, 5, 20), {4: 65534, 5: 0}, {3: 0x05060708, "held": 1}, lay(65534, (5, 6, 7, 8)))

    def test_store(self):
        before = {3: 0x11220044, 4: 0xFFFFFFFF, 5: 0x3001, "held": 1, "cr": WORD, "xer": 0}
        changed = {0x3000: 0x11, 0x3001: 0x22, 0x3003: 0x44}
        self.check(three(31, 3, 4, 5, 150, 1), before, {"held": 0, "cr": 0x2FFFFFFF}, None, changed)
        before.update({"xer": SO, "cr": 0})
        self.check(three(31, 3, 4, 5, 150, 1), before, {"held": 0, "cr": 0x30000000}, None, changed)
        before = {0: 0x50, 3: 7, 5: 0x3000, "held": 1, "cr": 0}
        self.check(three(31, 3, 0, 5, 150, 1), before, {"held": 0, "cr": 0x20000000}, None, {0x3003: 7})

    def test_store_that_is_not_held(self):
        for held in (0, 2, 3, 2 ** 31, WORD):
            before = {3: 7, 4: 0x3000, 5: 0, "held": held, "cr": WORD, "xer": 0}
            self.check(three(31, 3, 4, 5, 150, 1), before, {"held": 0, "cr": 0x0FFFFFFF})
            before.update({"xer": SO, "cr": 0})
            self.check(three(31, 3, 4, 5, 150, 1), before, {"held": 0, "cr": 0x10000000})

    def test_store_without_r_is_none(self):
        for held in (0, 1, 2):
            self.check_none(three(31, 3, 4, 5, 150), {"held": held})

    def test_others_leave_it(self):
        for held in (0, 1, 2, WORD):
            self.check(plain(36, 3, 4, 0), {3: 0, 4: 0, "held": held})
            self.check(three(31, 3, 4, 5, 23), {4: 0, 5: 0, "held": held}, {3: 0})


class Handed(StepCase):
    def test_later_bytes_over_earlier_ones(self):
        state = changed_state(start(), {4: 0x3000})
        word = bytes_of(plain(34, 3, 4, 0))
        places = [0x3000, 0x3000] + [PC % 65536 + offset for offset in range(4)] + [0x3000, 0x3001]
        given = [1, 2] + word + [9, 5]
        answer = step(state, places, given)
        self.assertEqual(answer, [0] + changed_state(state, {3: 9, "pc": PC + 4}))

    def test_a_later_instruction_over_an_earlier_one(self):
        state = changed_state(start(), {4: 0x3000})
        spot = [PC % 65536 + offset for offset in range(4)]
        answer = step(state, spot + spot, bytes_of(plain(14, 3, 0, 1)) + bytes_of(plain(14, 3, 0, 2)))
        self.assertEqual(answer, [0] + changed_state(state, {3: 2, "pc": PC + 4}))

    def test_changes_count_from_the_latest_byte(self):
        state = changed_state(start(), {3: 0x11, 4: 0x3000})
        spot = [PC % 65536 + offset for offset in range(4)]
        word = bytes_of(plain(38, 3, 4, 0))
        then = changed_state(state, {"pc": PC + 4})
        self.assertEqual(step(state, spot + [0x3000, 0x3000], word + [0x22, 0x11]), [0] + then)
        self.assertEqual(step(state, spot + [0x3000, 0x3000], word + [0x11, 0x22]), [0] + then + [0x3000, 0x11])

    def test_no_memory(self):
        self.assertEqual(step(start(), [], []), [-1])
        self.assertEqual(step([0] * 38, [], []), [-1])

    def test_all_of_memory(self):
        places = list(range(60000))
        given = [place % 251 for place in places]
        spot = PC % 65536
        given[spot:spot + 4] = bytes_of(plain(32, 3, 4, 0))
        state = changed_state(start(), {4: 59998})
        expected = 59998 % 251 << 24 | 59999 % 251 << 16
        self.assertEqual(step(state, places, given), [0] + changed_state(state, {3: expected, "pc": PC + 4}))

    def test_where_an_instruction_is_fetched(self):
        word = plain(14, 3, 0, 7)
        for pc in (0, 3, 65532, 65533, 65534, 65535, 0x77770000, WORD - 3, WORD):
            self.check(word, {"pc": pc}, {3: 7})
        around = lay(65532, bytes_of(word) + [0xFF] * 4)
        state = changed_state(start(), {"pc": 65534})
        answer = step(state, list(around), list(around.values()))
        self.assertEqual(answer, [0] + changed_state(state, {3: 7, "pc": 65536}))
