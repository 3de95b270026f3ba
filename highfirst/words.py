"""Numbers of 32 bits, the parts of an instruction, and how an instruction may end."""

WORD = 0xFFFFFFFF
SIGN = 0x80000000

# How an instruction ended. These are the numbers that a run tells as its reason, too.
DONE = 0
SYSTEM_CALL = 1
TRAP = 2
NO_INSTRUCTION = 3


def signed(value):
    return (value ^ SIGN) - SIGN


def signed_half(value):
    return (value ^ 0x8000) - 0x8000


def field_op(word):
    return word >> 26


def field_d(word):
    return (word >> 21) & 31


def field_a(word):
    return (word >> 16) & 31


def field_b(word):
    return (word >> 11) & 31


def field_c(word):
    return (word >> 6) & 31


def field_e(word):
    return (word >> 1) & 31


def number_of(word):
    return (word >> 1) & 1023


def immediate(word):
    return signed_half(word & 0xFFFF)


def plain_immediate(word):
    return word & 0xFFFF


def is_recorded(word):
    return (word & 1) == 1


def tells_overflow(word):
    return ((word >> 10) & 1) == 1
