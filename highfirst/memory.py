"""Memory: 65536 bytes, the highest byte of a number first."""

from highfirst.words import WORD

# The last of memory's 16384 numbers of four bytes.
LAST_INDEX = 0x3FFF
# As many bytes of ones as the index tells.
ONES = (0, 0xFF, 0xFFFF, 0xFFFFFF, 0xFFFFFFFF)


class Memory:
    # Four bytes are kept as one number: a long run spends much of its time here,
    # and what most instructions load or store then lies within one or two of them.
    def __init__(self, places, given):
        self.fours = {}
        for place, byte in zip(places, given):
            shift = 24 - 8 * (place & 3)
            others = self.fours.get(place >> 2, 0) & (WORD ^ (255 << shift))
            self.fours[place >> 2] = others | (byte << shift)
        # What stood there ahead of the first writing: the answer tells real changes alone.
        self.before = {}

    def load(self, place, size):
        index = (place >> 2) & LAST_INDEX
        end = (place & 3) + size
        value = self.fours.get(index, 0)
        if end > 4:
            value = (value << 32) | self.fours.get((index + 1) & LAST_INDEX, 0)
            end = end - 4
        return (value >> (32 - 8 * end)) & ONES[size]

    def store(self, place, size, value):
        index = (place >> 2) & LAST_INDEX
        end = (place & 3) + size
        if end > 4:
            behind = end - 4
            self.store(place + size - behind, behind, value)
            size = size - behind
            value = value >> (8 * behind)
            end = 4
        shift = 32 - 8 * end
        ones = ONES[size] << shift
        old = self.fours.get(index, 0)
        if index not in self.before:
            self.before[index] = old
        self.fours[index] = (old & (WORD ^ ones)) | ((value << shift) & ones)

    def changes(self):
        told = []
        for index in sorted(self.before):
            if self.fours[index] != self.before[index]:
                told.extend(self.changes_within(index))
        return told

    def changes_within(self, index):
        told = []
        for offset in range(4):
            shift = 24 - 8 * offset
            byte = (self.fours[index] >> shift) & 255
            if byte != (self.before[index] >> shift) & 255:
                told.append(4 * index + offset)
                told.append(byte)
        return told
