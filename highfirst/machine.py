"""What an instruction reads and changes: the state's numbers and the memory."""

from highfirst.memory import Memory
from highfirst.words import WORD, signed

ALIGNED = 0xFFFFFFFC
BELOW = 8
ABOVE = 4
ALIKE = 2


class Machine:
    def __init__(self, state, places, given):
        self.general = state[0:32]
        self.cr = state[32]
        self.xer = state[33]
        self.lr = state[34]
        self.ctr = state[35]
        self.pc = state[36]
        self.held = state[37]
        self.memory = Memory(places, given)
        # What was found for each word that was done: in a loop, finding it anew would take most of the time.
        self.found = {}
        # Where this instruction stands and where the next one does, so that pc itself waits
        # until it is sure that the instruction is done: a trap leaves even pc's low bits.
        self.here = 0
        self.following = 0

    def begin(self):
        self.here = self.pc & ALIGNED
        self.following = (self.here + 4) & WORD

    def go_on(self):
        self.pc = self.following

    def branch_to(self, place):
        self.following = place & ALIGNED

    def numbers(self):
        return self.general + [self.cr, self.xer, self.lr, self.ctr, self.pc, self.held]

    def base(self, number):
        return self.general[number] if number != 0 else 0

    def summed_overflow(self):
        return self.xer >> 31

    def set_overflow(self, overflowed):
        self.xer = self.xer & 0xBFFFFFFF
        if overflowed:
            self.xer = self.xer | 0xC0000000

    def carry(self):
        return (self.xer >> 29) & 1

    def set_carry(self, carry):
        self.xer = (self.xer & 0xDFFFFFFF) | (carry << 29)

    def condition_bit(self, number):
        return (self.cr >> (31 - number)) & 1

    def set_condition_bit(self, number, bit):
        shift = 31 - number
        self.cr = self.cr & (WORD ^ (1 << shift)) | (bit << shift)

    def condition_field(self, number):
        return (self.cr >> (28 - 4 * number)) & 15

    def set_condition_field(self, number, bits):
        shift = 28 - 4 * number
        self.cr = self.cr & (WORD ^ (15 << shift)) | (bits << shift)

    def compare(self, number, left, right):
        relation = ALIKE
        if left < right:
            relation = BELOW
        elif left > right:
            relation = ABOVE
        self.set_condition_field(number, relation | self.summed_overflow())

    def record(self, result):
        self.compare(0, signed(result), 0)
