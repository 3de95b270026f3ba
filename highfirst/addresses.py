"""The places in memory that an instruction means."""

from highfirst.words import WORD, field_a, field_b, immediate


def place_by_immediate(machine, word):
    return (machine.base(field_a(word)) + immediate(word)) & WORD


def place_by_b(machine, word):
    return (machine.base(field_a(word)) + machine.general[field_b(word)]) & WORD
