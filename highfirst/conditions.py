"""Comparisons, the fields and bits of cr, and moves between r and the other numbers of the state."""

from highfirst.gates import find_bit_gate
from highfirst.words import DONE, NO_INSTRUCTION, field_a, field_b, field_d, immediate, number_of, plain_immediate
from highfirst.words import signed


def compare_plain_immediate(machine, word):
    machine.compare(field_d(word) // 4, machine.general[field_a(word)], plain_immediate(word))
    return DONE


def compare_immediate(machine, word):
    machine.compare(field_d(word) // 4, signed(machine.general[field_a(word)]), immediate(word))
    return DONE


def compare_signed(machine, word):
    left = signed(machine.general[field_a(word)])
    machine.compare(field_d(word) // 4, left, signed(machine.general[field_b(word)]))
    return DONE


def compare_unsigned(machine, word):
    left = machine.general[field_a(word)]
    machine.compare(field_d(word) // 4, left, machine.general[field_b(word)])
    return DONE


def copy_field(machine, word):
    machine.set_condition_field(field_d(word) // 4, machine.condition_field(field_a(word) // 4))
    return DONE


def join_bits(machine, word):
    gate = find_bit_gate(number_of(word))
    joined = gate(machine.condition_bit(field_a(word)), machine.condition_bit(field_b(word)))
    # The gates work on whole words: of what they make only the lowest bit is meant here.
    machine.set_condition_bit(field_d(word), joined & 1)
    return DONE


def load_conditions(machine, word):
    machine.general[field_d(word)] = machine.cr
    return DONE


def store_conditions(machine, word):
    value = machine.general[field_d(word)]
    for number in range(8):
        if (word >> (19 - number)) & 1:
            machine.set_condition_field(number, (value >> (28 - 4 * number)) & 15)
    return DONE


def move_overflow_to_field(machine, word):
    machine.set_condition_field(field_d(word) // 4, machine.xer >> 28)
    machine.xer = machine.xer & 0x0FFFFFFF
    return DONE


def load_special(machine, word):
    name = field_a(word)
    if field_b(word) != 0:
        return NO_INSTRUCTION
    if name == 1:
        machine.general[field_d(word)] = machine.xer
    elif name == 8:
        machine.general[field_d(word)] = machine.lr
    elif name == 9:
        machine.general[field_d(word)] = machine.ctr
    else:
        return NO_INSTRUCTION
    return DONE


def store_special(machine, word):
    name = field_a(word)
    value = machine.general[field_d(word)]
    if field_b(word) != 0:
        return NO_INSTRUCTION
    if name == 1:
        machine.xer = value
    elif name == 8:
        machine.lr = value
    elif name == 9:
        machine.ctr = value
    else:
        return NO_INSTRUCTION
    return DONE


BY_OP = {
    10: compare_plain_immediate,
    11: compare_immediate,
}

BY_NUMBER_OF_19 = {
    0: copy_field,
}

BY_NUMBER_OF_31 = {
    0: compare_signed,
    19: load_conditions,
    32: compare_unsigned,
    144: store_conditions,
    339: load_special,
    467: store_special,
    512: move_overflow_to_field,
}


def find_comparison_by_op(op):
    return BY_OP.get(op)


def find_condition_of_19(number):
    if find_bit_gate(number) is not None:
        return join_bits
    return BY_NUMBER_OF_19.get(number)


def find_condition_of_31(number):
    return BY_NUMBER_OF_31.get(number)
