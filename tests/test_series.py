"""Several numbers from memory or to it: 46, 47, and 533, 661, 597, 725, 1014 under 31; and what does nothing."""

import itertools

from tests.support import PC, WORD, StepCase, lay, plain, start, three

COUNTS = (0, 1, 2, 3, 4, 5, 7, 8, 31, 32, 33, 63, 64, 126, 127)
# No two neighbours are alike, and none is 0.
DATA = [offset * 7 % 255 + 1 for offset in range(128)]
PLACES = (0x3000, 0x3001, 0x3003, 65534, 65535)


def four(offset):
    return int.from_bytes(bytes(DATA[offset:offset + 4]), "big")


class ToTheLast(StepCase):
    def test_load(self):
        for first, place in itertools.product((0, 1, 15, 30, 31), PLACES):
            after = {number: four(4 * (number - first)) for number in range(first, 32)}
            for a in (1, 4, 31):
                self.check(plain(46, first, a, -5), {a: place + 5}, after, lay(place, DATA))
            after = {number: four(4 * (number - first)) for number in range(first, 32)}
            self.check(plain(46, first, 0, 0x3000), {0: 0x50}, after, lay(0x3000, DATA))

    def test_store(self):
        for first, place in itertools.product((0, 1, 15, 30, 31), PLACES):
            for a in (1, 4, 31):
                state = start()
                state[a] = place + 5
                new = [byte for number in range(first, 32) for byte in state[number].to_bytes(4, "big")]
                changed = {spot: byte for spot, byte in lay(place, new).items() if byte != 0}
                self.check(plain(47, first, a, -5), {a: place + 5}, {}, None, changed)
        state = start()
        state[0] = 0x50505050
        new = [byte for number in range(32) for byte in state[number].to_bytes(4, "big")]
        changed = {spot: byte for spot, byte in lay(0x3000, new).items() if byte != 0}
        self.check(plain(47, 0, 0, 0x3000), {0: 0x50505050}, {}, None, changed)

    def test_told(self):
        memory = lay(0x40, (1, 2, 3, 4, 5, 6, 7, 8))
        self.check(plain(46, 30, 30, 0), {30: 0x40}, {30: 0x01020304, 31: 0x05060708}, memory)
        self.check(plain(46, 31, 31, 4), {31: 0x40}, {31: 0x05060708}, memory)
        self.check(plain(47, 31, 31, 1), {31: 0x40}, {}, None, {0x44: 0x40})
        self.check(plain(46, 31, 4, 2), {4: 65532}, {31: 0x0A0B0C0D}, lay(65534, (10, 11, 12, 13)))


class Counted(StepCase):
    def loaded(self, first, count):
        bytes_in = DATA[:count] + [0] * 3
        after = {}
        for offset in range(0, count, 4):
            number = (first + offset // 4) % 32
            after[number] = int.from_bytes(bytes(bytes_in[offset:offset + 4]), "big")
        return after

    def stored(self, state, first, count, place):
        turned = state[first:32] + state[0:first]
        new = [byte for value in turned for byte in value.to_bytes(4, "big")][:count]
        return {spot: byte for spot, byte in lay(place, new).items() if byte != 0}

    def test_load_by_the_count(self):
        for count, first, place in itertools.product(COUNTS, (0, 3, 30, 31), PLACES):
            for rest in (0, 0xFFFFFF80):
                before = {4: place - 9, 5: 9, "xer": rest | count}
                self.check(three(31, first, 4, 5, 533), before, self.loaded(first, count), lay(place, DATA))

    def test_store_by_the_count(self):
        for count, first, place in itertools.product(COUNTS, (0, 3, 30, 31), PLACES):
            for rest in (0, 0xFFFFFF80):
                state = start()
                before = {4: place - 9, 5: 9, "xer": rest | count}
                state[4] = place - 9
                state[5] = 9
                changed = self.stored(state, first, count, place)
                self.check(three(31, first, 4, 5, 661), before, {}, None, changed)

    def test_load_as_many_as_b(self):
        for b, first, place in itertools.product(range(32), (0, 3, 28, 31), PLACES):
            count = b or 32
            self.check(three(31, first, 4, b, 597), {4: place}, self.loaded(first, count), lay(place, DATA))

    def test_store_as_many_as_b(self):
        for b, first, place in itertools.product(range(32), (0, 3, 28, 31), PLACES):
            state = start()
            state[4] = place
            changed = self.stored(state, first, b or 32, place)
            self.check(three(31, first, 4, b, 725), {4: place}, {}, None, changed)

    def test_told(self):
        memory = lay(0x40, (1, 2, 3, 4, 5, 6, 7, 8, 9))
        self.check(three(31, 31, 4, 5, 597), {4: 0x40}, {31: 0x01020304, 0: 0x05000000}, memory)
        self.check(three(31, 31, 4, 1, 597), {4: 0x40}, {31: 0x01000000}, memory)
        before = {31: 0x11121314, 0: 0x15161718, 4: 0x40}
        self.check(three(31, 31, 4, 6, 725), before, {}, None, lay(0x40, (0x11, 0x12, 0x13, 0x14, 0x15, 0x16)))
        self.check(three(31, 3, 4, 5, 533), {4: 0x40, 5: 0, "xer": 0}, {}, memory)
        self.check(three(31, 3, 4, 5, 661), {4: 0x40, 5: 0, "xer": 0}, {}, memory)
        self.check(three(31, 3, 4, 5, 533), {4: 0x40, 5: 0, "xer": 0x80}, {}, memory)

    def test_a_0_is_nothing(self):
        memory = lay(0x40, (1, 2, 3, 4, 5))
        self.check(three(31, 3, 0, 5, 533), {0: 0x1000, 5: 0x40, "xer": 4}, {3: 0x01020304}, memory)
        self.check(three(31, 3, 0, 4, 597), {0: 0x40}, {3: 0}, memory)
        self.check(three(31, 3, 0, 4, 597), {0: 0x40}, {3: 0x0A0B0C0D}, lay(0, (10, 11, 12, 13)))
        self.check(three(31, 3, 0, 5, 661), {0: 0x1000, 3: 0x01020304, 5: 0x40, "xer": 3}, {}, None,
                   lay(0x40, (1, 2, 3)))
        self.check(three(31, 3, 0, 3, 725), {0: 0x1000, 3: 0x01020304}, {}, None, lay(0, (1, 2, 3)))

    def test_a_and_b_among_those_that_are_loaded(self):
        self.check(three(31, 3, 4, 12, 597), {4: 0x3000}, self.loaded(3, 12), lay(0x3000, DATA))
        self.check(three(31, 3, 3, 8, 597), {3: 0x3000}, self.loaded(3, 8), lay(0x3000, DATA))
        before = {4: 0x2000, 5: 0x1000, "xer": 12}
        self.check(three(31, 3, 4, 5, 533), before, self.loaded(3, 12), lay(0x3000, DATA))


class Blocks(StepCase):
    def test_32_bytes(self):
        memory = {place: 0x55 for place in range(0x2FE0, 0x3060)}
        memory[0x3005] = 0
        changed = {place: 0 for place in range(0x3000, 0x3020) if place != 0x3005}
        for offset in (0, 1, 4, 16, 31):
            self.check(three(31, 0, 4, 5, 1014), {4: 0x2000, 5: 0x1000 + offset}, {}, memory, changed)
            self.check(three(31, 0, 0, 5, 1014), {0: 64, 5: 0x3000 + offset}, {}, memory, changed)
            self.check(three(31, 0, 4, 5, 1014), {4: 0x80000000, 5: 0x80013000 + offset}, {}, memory, changed)

    def test_the_last_block(self):
        memory = {place: 9 for place in list(range(64)) + list(range(65472, 65536))}
        changed = {place: 0 for place in range(65504, 65536)}
        for place in (65504, 65535, WORD, WORD - 31):
            self.check(three(31, 0, 4, 5, 1014), {4: place, 5: 0}, {}, memory, changed)
        changed = {place: 0 for place in range(32)}
        self.check(three(31, 0, 4, 5, 1014), {4: WORD, 5: 1}, {}, memory, changed)

    def test_over_the_instruction_itself(self):
        word = three(31, 0, 4, 5, 1014)
        spot = PC % 65536
        changed = {spot + offset: 0 for offset in range(4) if word >> 24 - 8 * offset & 255}
        self.check(word, {4: PC, 5: 31}, {}, None, changed)

    def test_nothing(self):
        for number in (54, 86, 246, 278, 598, 854, 982):
            for r in (0, 1):
                self.check(three(31, 3, 4, 5, number, r), {4: 0x3000, 5: 0}, {}, lay(0x3000, DATA))
                self.check(three(31, 0, 0, 0, number, r), None, {}, lay(0x3000, DATA))
