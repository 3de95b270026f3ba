"""Several numbers from memory or to it: ops 46, 47, and their like under 31."""

from highfirst.addresses import place_by_b, place_by_immediate
from highfirst.words import DONE, field_a, field_b, field_d


def load_to_last(machine, word):
    # The place is found first: A may be among those that are loaded.
    place = place_by_immediate(machine, word)
    for target in range(field_d(word), 32):
        machine.general[target] = machine.memory.load(place, 4)
        place = place + 4
    return DONE


def store_to_last(machine, word):
    place = place_by_immediate(machine, word)
    for source in range(field_d(word), 32):
        machine.memory.store(place, 4, machine.general[source])
        place = place + 4
    return DONE


def load_bytes(machine, word, place, size):
    target = field_d(word)
    for offset in range(0, size, 4):
        part = min(4, size - offset)
        machine.general[target] = machine.memory.load(place + offset, part) << (8 * (4 - part))
        target = (target + 1) & 31
    return DONE


def store_bytes(machine, word, place, size):
    source = field_d(word)
    for offset in range(0, size, 4):
        part = min(4, size - offset)
        machine.memory.store(place + offset, part, machine.general[source] >> (8 * (4 - part)))
        source = (source + 1) & 31
    return DONE


def counted_size(machine):
    return machine.xer & 127


def written_size(word):
    return field_b(word) if field_b(word) != 0 else 32


def load_counted(machine, word):
    return load_bytes(machine, word, place_by_b(machine, word), counted_size(machine))


def store_counted(machine, word):
    return store_bytes(machine, word, place_by_b(machine, word), counted_size(machine))


def load_written(machine, word):
    return load_bytes(machine, word, machine.base(field_a(word)), written_size(word))


def store_written(machine, word):
    return store_bytes(machine, word, machine.base(field_a(word)), written_size(word))


def clear_block(machine, word):
    place = place_by_b(machine, word) & 0xFFFFFFE0
    for offset in range(0, 32, 4):
        machine.memory.store(place + offset, 4, 0)
    return DONE


BY_OP = {
    46: load_to_last,
    47: store_to_last,
}

BY_NUMBER = {
    533: load_counted,
    597: load_written,
    661: store_counted,
    725: store_written,
    1014: clear_block,
}


def find_series_by_op(op):
    return BY_OP.get(op)


def find_series_by_number(number):
    return BY_NUMBER.get(number)
