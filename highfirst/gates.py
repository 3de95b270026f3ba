"""The eight ways to join bits; 31 joins whole words so, 19 single bits of cr."""

from highfirst.words import WORD


def join_and(left, right):
    return left & right


def join_and_not(left, right):
    return left & (right ^ WORD)


def join_or(left, right):
    return left | right


def join_or_not(left, right):
    return left | (right ^ WORD)


def join_xor(left, right):
    return left ^ right


def join_alike(left, right):
    return left ^ right ^ WORD


def join_nand(left, right):
    return (left & right) ^ WORD


def join_nor(left, right):
    return (left | right) ^ WORD


WORD_GATES = {
    28: join_and,
    60: join_and_not,
    124: join_nor,
    284: join_alike,
    316: join_xor,
    412: join_or_not,
    444: join_or,
    476: join_nand,
}

BIT_GATES = {
    33: join_nor,
    129: join_and_not,
    193: join_xor,
    225: join_nand,
    257: join_and,
    289: join_alike,
    417: join_or_not,
    449: join_or,
}


def find_word_gate(number):
    return WORD_GATES.get(number)


def find_bit_gate(number):
    return BIT_GATES.get(number)
