"""What works bit by bit: ops 20 to 29, and under 31 the gates, shifts and their like."""

from highfirst.gates import find_word_gate
from highfirst.words import DONE, WORD, field_a, field_b, field_c, field_d, field_e, field_op, is_recorded, number_of
from highfirst.words import plain_immediate, signed, signed_half

# The gates of ops 24 to 29, by the numbers that these gates have under 31.
IMMEDIATE_GATES = {24: 444, 25: 444, 26: 316, 27: 316, 28: 28, 29: 28}


def finish(machine, word, result):
    machine.general[field_a(word)] = result
    if is_recorded(word):
        machine.record(result)
    return DONE


def turn_left(value, distance):
    return ((value << distance) | (value >> (32 - distance))) & WORD


def mask_of(first, last):
    from_first = WORD >> first
    to_last = (WORD << (31 - last)) & WORD
    return from_first & to_last if first <= last else from_first | to_last


def turn_and_insert(machine, word):
    mask = mask_of(field_c(word), field_e(word))
    turned = turn_left(machine.general[field_d(word)], field_b(word))
    return finish(machine, word, (turned & mask) | (machine.general[field_a(word)] & (mask ^ WORD)))


def turn_and_mask(machine, word):
    turned = turn_left(machine.general[field_d(word)], field_b(word))
    return finish(machine, word, turned & mask_of(field_c(word), field_e(word)))


def turn_by_b_and_mask(machine, word):
    turned = turn_left(machine.general[field_d(word)], machine.general[field_b(word)] & 31)
    return finish(machine, word, turned & mask_of(field_c(word), field_e(word)))


def join_immediate(machine, word):
    op = field_op(word)
    right = plain_immediate(word)
    if op & 1:
        right = right << 16
    gate = find_word_gate(IMMEDIATE_GATES[op])
    result = gate(machine.general[field_d(word)], right)
    machine.general[field_a(word)] = result
    if op >= 28:
        machine.record(result)
    return DONE


def join_words(machine, word):
    gate = find_word_gate(number_of(word))
    return finish(machine, word, gate(machine.general[field_d(word)], machine.general[field_b(word)]))


def count_zeros(machine, word):
    return finish(machine, word, 32 - machine.general[field_d(word)].bit_length())


def extend_half(machine, word):
    return finish(machine, word, signed_half(machine.general[field_d(word)] & 0xFFFF) & WORD)


def extend_byte(machine, word):
    low = machine.general[field_d(word)] & 0xFF
    return finish(machine, word, ((low ^ 0x80) - 0x80) & WORD)


def shift_left(machine, word):
    distance = machine.general[field_b(word)] & 63
    return finish(machine, word, (machine.general[field_d(word)] << distance) & WORD)


def shift_right(machine, word):
    distance = machine.general[field_b(word)] & 63
    return finish(machine, word, machine.general[field_d(word)] >> distance)


def finish_signed_shift(machine, word, distance):
    value = signed(machine.general[field_d(word)])
    result = value >> distance
    ones_are_lost = (result << distance) != value
    machine.set_carry(1 if value < 0 and ones_are_lost else 0)
    return finish(machine, word, result & WORD)


def shift_right_signed(machine, word):
    return finish_signed_shift(machine, word, machine.general[field_b(word)] & 63)


def shift_right_signed_by_number(machine, word):
    return finish_signed_shift(machine, word, field_b(word))


BY_OP = {
    20: turn_and_insert,
    21: turn_and_mask,
    23: turn_by_b_and_mask,
}

BY_NUMBER = {
    24: shift_left,
    26: count_zeros,
    536: shift_right,
    792: shift_right_signed,
    824: shift_right_signed_by_number,
    922: extend_half,
    954: extend_byte,
}


def find_bits_by_op(op):
    if op in IMMEDIATE_GATES:
        return join_immediate
    return BY_OP.get(op)


def find_bits_by_number(number):
    if find_word_gate(number) is not None:
        return join_words
    return BY_NUMBER.get(number)
