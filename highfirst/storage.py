"""One number from memory or to it: ops 32 to 45, and their like under 31."""

from highfirst.addresses import place_by_b, place_by_immediate
from highfirst.words import DONE, NO_INSTRUCTION, WORD, field_a, field_d, field_op, is_recorded, number_of
from highfirst.words import signed_half

# Of each op: how many bytes, whether with their sign, whether A becomes the place.
LOADS = {
    32: (4, False, False),
    33: (4, False, True),
    34: (1, False, False),
    35: (1, False, True),
    40: (2, False, False),
    41: (2, False, True),
    42: (2, True, False),
    43: (2, True, True),
}

# The same of each number under 31.
LOADS_BY_B = {
    23: (4, False, False),
    55: (4, False, True),
    87: (1, False, False),
    119: (1, False, True),
    279: (2, False, False),
    311: (2, False, True),
    343: (2, True, False),
    375: (2, True, True),
}

# Of each op: how many bytes, whether A becomes the place.
STORES = {
    36: (4, False),
    37: (4, True),
    38: (1, False),
    39: (1, True),
    44: (2, False),
    45: (2, True),
}

# The same of each number under 31.
STORES_BY_B = {
    151: (4, False),
    183: (4, True),
    215: (1, False),
    247: (1, True),
    407: (2, False),
    439: (2, True),
}

# How many bytes, the lowest first.
REVERSED_LOADS = {534: 4, 790: 2}
REVERSED_STORES = {662: 4, 918: 2}


def load_from(machine, word, row, place):
    target = field_d(word)
    base = field_a(word)
    if row[2] and (base == 0 or base == target):
        return NO_INSTRUCTION
    value = machine.memory.load(place, row[0])
    machine.general[target] = (signed_half(value) & WORD) if row[1] else value
    if row[2]:
        machine.general[base] = place
    return DONE


def store_to(machine, word, row, place):
    base = field_a(word)
    if row[1] and base == 0:
        return NO_INSTRUCTION
    machine.memory.store(place, row[0], machine.general[field_d(word)])
    if row[1]:
        machine.general[base] = place
    return DONE


def load_by_immediate(machine, word):
    return load_from(machine, word, LOADS[field_op(word)], place_by_immediate(machine, word))


def load_by_b(machine, word):
    return load_from(machine, word, LOADS_BY_B[number_of(word)], place_by_b(machine, word))


def store_by_immediate(machine, word):
    return store_to(machine, word, STORES[field_op(word)], place_by_immediate(machine, word))


def store_by_b(machine, word):
    return store_to(machine, word, STORES_BY_B[number_of(word)], place_by_b(machine, word))


def reverse_bytes(value, size):
    turned = 0
    for number in range(size):
        turned = (turned << 8) | ((value >> (8 * number)) & 255)
    return turned


def load_reversed(machine, word):
    size = REVERSED_LOADS[number_of(word)]
    machine.general[field_d(word)] = reverse_bytes(machine.memory.load(place_by_b(machine, word), size), size)
    return DONE


def store_reversed(machine, word):
    size = REVERSED_STORES[number_of(word)]
    machine.memory.store(place_by_b(machine, word), size, reverse_bytes(machine.general[field_d(word)], size))
    return DONE


def load_and_hold(machine, word):
    machine.general[field_d(word)] = machine.memory.load(place_by_b(machine, word), 4)
    machine.held = 1
    return DONE


def store_if_held(machine, word):
    if not is_recorded(word):
        return NO_INSTRUCTION
    was_held = machine.held == 1
    if was_held:
        machine.memory.store(place_by_b(machine, word), 4, machine.general[field_d(word)])
    machine.held = 0
    # No number is compared here: the field tells alone whether it was stored.
    machine.set_condition_field(0, (2 if was_held else 0) | machine.summed_overflow())
    return DONE


BY_NUMBER = {
    20: load_and_hold,
    150: store_if_held,
}


def find_storage_by_op(op):
    if op in LOADS:
        return load_by_immediate
    if op in STORES:
        return store_by_immediate
    return None


def find_storage_by_number(number):
    if number in LOADS_BY_B:
        return load_by_b
    if number in STORES_BY_B:
        return store_by_b
    if number in REVERSED_LOADS:
        return load_reversed
    if number in REVERSED_STORES:
        return store_reversed
    return BY_NUMBER.get(number)
