"""Sums, differences, products and quotients: ops 7, 8, 12 to 15, and what 31 calculates."""

from highfirst.words import DONE, SIGN, WORD, field_a, field_b, field_d, immediate, is_recorded, number_of
from highfirst.words import signed, tells_overflow

# Every sum and difference of 31 is a sum of three: A, or A inverted; B, nothing or all ones (less 1);
# nothing, one or the carry. The last tells whether the carry out of it is kept.
SUMS = {
    266: ("A", "B", "nothing", False),
    10: ("A", "B", "nothing", True),
    40: ("not A", "B", "one", False),
    8: ("not A", "B", "one", True),
    138: ("A", "B", "carry", True),
    136: ("not A", "B", "carry", True),
    202: ("A", "nothing", "carry", True),
    200: ("not A", "nothing", "carry", True),
    234: ("A", "all ones", "carry", True),
    232: ("not A", "all ones", "carry", True),
    104: ("not A", "nothing", "one", False),
}


def multiply_immediate(machine, word):
    product = machine.general[field_a(word)] * immediate(word)
    machine.general[field_d(word)] = product & WORD
    return DONE


def add_immediate(machine, word):
    machine.general[field_d(word)] = (machine.base(field_a(word)) + immediate(word)) & WORD
    return DONE


def add_immediate_shifted(machine, word):
    machine.general[field_d(word)] = (machine.base(field_a(word)) + immediate(word) * 65536) & WORD
    return DONE


def sum_with_carry(machine, word, total):
    machine.set_carry(total >> 32)
    machine.general[field_d(word)] = total & WORD
    return total & WORD


def subtract_from_immediate(machine, word):
    inverted = machine.general[field_a(word)] ^ WORD
    sum_with_carry(machine, word, inverted + (immediate(word) & WORD) + 1)
    return DONE


def add_immediate_carrying(machine, word):
    sum_with_carry(machine, word, machine.general[field_a(word)] + (immediate(word) & WORD))
    return DONE


def add_immediate_recorded(machine, word):
    total = machine.general[field_a(word)] + (immediate(word) & WORD)
    machine.record(sum_with_carry(machine, word, total))
    return DONE


def first_of_sum(machine, word, name):
    value = machine.general[field_a(word)]
    return value if name == "A" else value ^ WORD


def second_of_sum(machine, word, name):
    if name == "B":
        return machine.general[field_b(word)]
    return WORD if name == "all ones" else 0


def third_of_sum(machine, name):
    if name == "carry":
        return machine.carry()
    return 1 if name == "one" else 0


def finish(machine, word, result, overflowed):
    # Overflow goes first: the recorded field shows the summed overflow as it is afterwards.
    if tells_overflow(word):
        machine.set_overflow(overflowed)
    machine.general[field_d(word)] = result
    if is_recorded(word):
        machine.record(result)
    return DONE


def calculate_sum(machine, word):
    row = SUMS[number_of(word) & 511]
    first = first_of_sum(machine, word, row[0])
    second = second_of_sum(machine, word, row[1])
    third = third_of_sum(machine, row[2])
    total = first + second + third
    if row[3]:
        machine.set_carry(total >> 32)
    exact = signed(first) + signed(second) + third
    return finish(machine, word, total & WORD, exact != signed(total & WORD))


def multiply(machine, word):
    product = signed(machine.general[field_a(word)]) * signed(machine.general[field_b(word)])
    return finish(machine, word, product & WORD, product != signed(product & WORD))


def divide_signed(machine, word):
    above = signed(machine.general[field_a(word)])
    below = signed(machine.general[field_b(word)])
    if below == 0:
        return finish(machine, word, 0, True)
    quotient = abs(above) // abs(below)
    if (above < 0) != (below < 0):
        quotient = 0 - quotient
    if quotient == SIGN:
        return finish(machine, word, 0, True)
    return finish(machine, word, quotient & WORD, False)


def divide_unsigned(machine, word):
    below = machine.general[field_b(word)]
    if below == 0:
        return finish(machine, word, 0, True)
    return finish(machine, word, machine.general[field_a(word)] // below, False)


def keep_upper_half(machine, word, product):
    result = (product >> 32) & WORD
    machine.general[field_d(word)] = result
    if is_recorded(word):
        machine.record(result)
    return DONE


def multiply_high_signed(machine, word):
    left = signed(machine.general[field_a(word)])
    return keep_upper_half(machine, word, left * signed(machine.general[field_b(word)]))


def multiply_high_unsigned(machine, word):
    return keep_upper_half(machine, word, machine.general[field_a(word)] * machine.general[field_b(word)])


BY_OP = {
    7: multiply_immediate,
    8: subtract_from_immediate,
    12: add_immediate_carrying,
    13: add_immediate_recorded,
    14: add_immediate,
    15: add_immediate_shifted,
}

# These numbers are the low nine bits alone: the tenth tells of overflow.
BY_LOW_NUMBER = {
    235: multiply,
    459: divide_unsigned,
    491: divide_signed,
}

BY_NUMBER = {
    11: multiply_high_unsigned,
    75: multiply_high_signed,
}


def find_sum_by_op(op):
    return BY_OP.get(op)


def find_calculation(number):
    if (number & 511) in SUMS:
        return calculate_sum
    return BY_LOW_NUMBER.get(number & 511) or BY_NUMBER.get(number)
