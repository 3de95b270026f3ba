"""The calls of the program."""

from highfirst.machine import Machine
from highfirst.processor import do_instruction
from highfirst.words import NO_INSTRUCTION


def step(state, places, given):
    machine = Machine(state, places, given)
    ending = do_instruction(machine)
    if ending == NO_INSTRUCTION:
        return [-1]
    return [ending] + machine.numbers() + machine.changes()
