"""Finds what an instruction asks for, and does it."""

from highfirst.bits import find_bits_by_number, find_bits_by_op
from highfirst.branches import find_branch_by_op, find_branch_of_19, find_trap_of_31
from highfirst.conditions import find_comparison_by_op, find_condition_of_19, find_condition_of_31
from highfirst.pauses import find_pause_of_19, find_pause_of_31
from highfirst.series import find_series_by_number, find_series_by_op
from highfirst.storage import find_storage_by_number, find_storage_by_op
from highfirst.sums import find_calculation, find_sum_by_op
from highfirst.words import DONE, NO_INSTRUCTION, SYSTEM_CALL, field_op, number_of


def find_by_op(op):
    found = find_sum_by_op(op) or find_storage_by_op(op) or find_bits_by_op(op)
    return found or find_branch_by_op(op) or find_comparison_by_op(op) or find_series_by_op(op)


def find_by_number_of_19(number):
    return find_branch_of_19(number) or find_condition_of_19(number) or find_pause_of_19(number)


def find_by_number_of_31(number):
    found = find_calculation(number) or find_storage_by_number(number) or find_bits_by_number(number)
    found = found or find_condition_of_31(number) or find_trap_of_31(number)
    return found or find_series_by_number(number) or find_pause_of_31(number)


def find_action(word):
    op = field_op(word)
    if op == 19:
        return find_by_number_of_19(number_of(word))
    if op == 31:
        return find_by_number_of_31(number_of(word))
    return find_by_op(op)


def find_again(machine, word):
    if word not in machine.found:
        machine.found[word] = find_action(word)
    return machine.found[word]


def is_done(ending):
    return ending == DONE or ending == SYSTEM_CALL


def do_instruction(machine):
    machine.begin()
    word = machine.memory.load(machine.here, 4)
    action = find_again(machine, word)
    if action is None:
        return NO_INSTRUCTION
    ending = action(machine, word)
    if is_done(ending):
        machine.go_on()
    return ending
