"""How the tests write instructions and look at the whole answer of a step."""

import unittest

from highfirst.desk import step

WORD = 2 ** 32 - 1
EDGES = (0, 1, 2 ** 31 - 1, 2 ** 31, 2 ** 32 - 1)
ORDINARY = (2, 0x12345678, 0xDEADBEEF)
NUMBERS = EDGES + ORDINARY

SO = 1 << 31
OV = 1 << 30
CA = 1 << 29
# The bits of xer that have no name, and a count: calculations must leave them as they are.
XER_REST = 0x1F5A5A85

NAMES = {"cr": 32, "xer": 33, "lr": 34, "ctr": 35, "pc": 36, "held": 37}
PC = 0x00020100


def start():
    state = [0x9E3779B9 * (number + 1) & WORD for number in range(32)]
    return state + [0x13579BDF, XER_REST, 0x00ABCDEF, 0x00FEDCBA, PC, 5]


def changed_state(state, values):
    state = list(state)
    for name, value in values.items():
        state[NAMES.get(name, name)] = value
    return state


def signed(value, bits=32):
    value &= 2 ** bits - 1
    return value - 2 ** bits if value >= 2 ** (bits - 1) else value


def plain(op, d, a, number):
    return op << 26 | d << 21 | a << 16 | number & 0xFFFF


def three(op, d, a, b, number, r=0):
    return op << 26 | d << 21 | a << 16 | b << 11 | number << 1 | r


def turning(op, d, a, b, c, e, r=0):
    return op << 26 | d << 21 | a << 16 | b << 11 | c << 6 | e << 1 | r


def bytes_of(value, size=4):
    return list(value.to_bytes(size, "big"))


def lay(place, values):
    """The bytes from this place on, round the end of memory."""
    return {(place + offset) % 65536: value for offset, value in enumerate(values)}


def field_of(left, right, xer):
    """A field of cr that tells how left is to right."""
    return (8 if left < right else 4 if left > right else 2) + (xer >> 31)


def with_field(cr, number, bits):
    digits = [cr >> 28 - 4 * index & 15 for index in range(8)]
    digits[number] = bits
    whole = 0
    for digit in digits:
        whole = whole * 16 + digit
    return whole


def recorded(cr, result, xer):
    return with_field(cr, 0, field_of(signed(result), 0, xer))


class StepCase(unittest.TestCase):
    def ask(self, word, before=None, memory=None):
        """The state that was handed in, and the answer; what was handed in must be as it was."""
        state = changed_state(start(), before or {})
        whole = dict(memory or {})
        whole.update(lay(state[36] // 4 * 4, bytes_of(word)))
        places = list(whole)
        given = list(whole.values())
        kept = (list(state), list(places), list(given))
        answer = step(state, places, given)
        self.assertEqual((state, places, given), kept)
        self.assertEqual(step(state, places, given), answer)
        self.assertEqual((state, places, given), kept)
        self.assertIs(type(answer), list)
        self.assertTrue(all(type(number) is int for number in answer))
        return state, answer

    def check(self, word, before=None, after=None, memory=None, changed=None, ending=0):
        """The whole answer: all that isn't named in after and changed has to be as it was, but pc."""
        state, answer = self.ask(word, before, memory)
        expected = list(state)
        if ending != 2:
            expected[36] = (state[36] // 4 * 4 + 4) % 2 ** 32
        expected = changed_state(expected, after or {})
        told = []
        for place in sorted(changed or {}):
            told += [place, changed[place]]
        if answer != [ending] + expected + told:
            self.fail(self.difference(word, before, answer, [ending] + expected + told))

    def check_none(self, word, before=None, memory=None):
        answer = self.ask(word, before, memory)[1]
        self.assertEqual(answer, [-1], f"{word:08x}")

    def difference(self, word, before, answer, expected):
        lines = [f"{word:08x} with {before}"]
        names = {number + 1: name for name, number in NAMES.items()}
        for index in range(max(len(answer), len(expected))):
            got = answer[index] if index < len(answer) else None
            wanted = expected[index] if index < len(expected) else None
            if got != wanted:
                lines.append(f"{names.get(index, index - 1)}: {got} for {wanted}")
        return "; ".join(lines)
