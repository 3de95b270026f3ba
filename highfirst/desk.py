"""The calls of the program."""

from highfirst.machine import Machine
from highfirst.processor import do_instruction, is_done
from highfirst.words import DONE, NO_INSTRUCTION

MOST_STEPS = 1000000


def step(state, places, given):
    machine = Machine(state, places, given)
    ending = do_instruction(machine)
    if ending == NO_INSTRUCTION:
        return [-1]
    return [ending] + machine.numbers() + machine.memory.changes()


def run(steps, state, places, given):
    if steps > MOST_STEPS:
        return [-3]
    machine = Machine(state, places, given)
    done = 0
    ending = DONE
    while ending == DONE and done < steps:
        ending = do_instruction(machine)
        if is_done(ending):
            done = done + 1
    return [done, ending] + machine.numbers() + machine.memory.changes()
