"""How the tests write instructions and look at the whole answer of a step and of a run."""

import unittest

from highfirst.desk import run, step

WORD = 2 ** 32 - 1
EDGES = (0, 1, 2 ** 31 - 1, 2 ** 31, 2 ** 32 - 1)
ORDINARY = (2, 0x12345678, 0xDEADBEEF)
NUMBERS = EDGES + ORDINARY

SO = 1 << 31
OV = 1 << 30
CA = 1 << 29
# The bits of xer that have no name, and a count: calculations must leave them as they are.
XER_REST = 0x1F5A5A85

# What is an instruction: the ops, and the numbers under 19 and 31.
OPS = (3, 7, 8, 10, 11, 12, 13, 14, 15, 16, 17, 18, 20, 21, 23, 24, 25, 26, 27, 28, 29, 32, 33, 34, 35, 36, 37, 38,
       39, 40, 41, 42, 43, 44, 45, 46, 47)
NUMBERS_OF_19 = (0, 16, 528, 33, 129, 193, 225, 257, 289, 417, 449, 150)
# These may have bit 10, which is O.
CALCULATING = (266, 10, 40, 8, 138, 136, 202, 200, 234, 232, 104, 235, 491, 459)
OTHERS = (75, 11, 28, 60, 124, 284, 316, 412, 444, 476, 26, 922, 954, 24, 536, 792, 824, 0, 32, 4, 19, 144, 512, 339,
          467, 23, 87, 279, 343, 151, 215, 407, 55, 119, 311, 375, 183, 247, 439, 534, 790, 662, 918, 20, 150, 533,
          661, 597, 725, 1014, 54, 86, 246, 278, 598, 854, 982)
NUMBERS_OF_31 = CALCULATING + tuple(number + 512 for number in CALCULATING) + OTHERS

CALL = 17 << 26 | 2
TRAP = 3 << 26 | 31 << 21
IDLE = 24 << 26
# Four ways to be no instruction: no op, a count that is the goal, no place for A, no R.
NONES = (0, 19 << 26 | 16 << 21 | 528 << 1, 37 << 26 | 3 << 21 | 8, 31 << 26 | 3 << 21 | 4 << 16 | 150 << 1)

NAMES = {"cr": 32, "xer": 33, "lr": 34, "ctr": 35, "pc": 36, "held": 37}
PC = 0x00020100


def start():
    state = [0x9E3779B9 * (number + 1) & WORD for number in range(32)]
    return state + [0x13579BDF, XER_REST, 0x00ABCDEF, 0x00FEDCBA, PC, 5]


def changed_state(state, values):
    state = list(state)
    for name, value in values.items():
        state[NAMES.get(name, name)] = value
    return state


def signed(value, bits=32):
    value &= 2 ** bits - 1
    return value - 2 ** bits if value >= 2 ** (bits - 1) else value


def plain(op, d, a, number):
    return op << 26 | d << 21 | a << 16 | number & 0xFFFF


def three(op, d, a, b, number, r=0):
    return op << 26 | d << 21 | a << 16 | b << 11 | number << 1 | r


def turning(op, d, a, b, c, e, r=0):
    return op << 26 | d << 21 | a << 16 | b << 11 | c << 6 | e << 1 | r


def branch(distance, absolute=0, r=0):
    return 18 << 26 | distance & 0x03FFFFFC | absolute << 1 | r


def conditional(d, a, distance, absolute=0, r=0):
    return plain(16, d, a, distance & 0xFFFC | absolute << 1 | r)


def bytes_of(value, size=4):
    return list(value.to_bytes(size, "big"))


def lay(place, values):
    """The bytes from this place on, round the end of memory."""
    return {(place + offset) % 65536: value for offset, value in enumerate(values)}


def lay_words(place, words):
    return lay(place, [byte for word in words for byte in bytes_of(word)])


def told(changed):
    """Bytes of memory as they are answered: each place and its byte, in order of places."""
    return [number for place in sorted(changed) for number in (place, changed[place])]


def real_changes(old, new):
    return {place: byte for place, byte in new.items() if old.get(place, 0) != byte}


def field_of(left, right, xer):
    """A field of cr that tells how left is to right."""
    return (8 if left < right else 4 if left > right else 2) + (xer >> 31)


def with_field(cr, number, bits):
    digits = [cr >> 28 - 4 * index & 15 for index in range(8)]
    digits[number] = bits
    whole = 0
    for digit in digits:
        whole = whole * 16 + digit
    return whole


def recorded(cr, result, xer):
    return with_field(cr, 0, field_of(signed(result), 0, xer))


class AnswerCase(unittest.TestCase):
    def call_twice(self, call, *handed):
        """The answer; what was handed in must be as it was, and a second call answers the same."""
        kept = tuple(list(part) if isinstance(part, list) else part for part in handed)
        answer = call(*handed)
        self.assertEqual(handed, kept)
        self.assertEqual(call(*handed), answer)
        self.assertEqual(handed, kept)
        self.assertIs(type(answer), list)
        self.assertTrue(all(type(number) is int for number in answer))
        return answer

    def check_answer(self, answer, expected, state_at, what):
        """Both answers whole; state_at is where the state begins in them."""
        if answer == expected:
            return
        lines = [what]
        names = {number: name for name, number in NAMES.items()}
        for index in range(max(len(answer), len(expected))):
            got = answer[index] if index < len(answer) else None
            wanted = expected[index] if index < len(expected) else None
            if got != wanted:
                lines.append(f"{names.get(index - state_at, index - state_at)}: {got} for {wanted}")
        self.fail("; ".join(lines))


class StepCase(AnswerCase):
    def ask(self, word, before=None, memory=None):
        """The state that was handed in, and the answer."""
        state = changed_state(start(), before or {})
        whole = dict(memory or {})
        whole.update(lay(state[36] // 4 * 4, bytes_of(word)))
        return state, self.call_twice(step, state, list(whole), list(whole.values()))

    def check(self, word, before=None, after=None, memory=None, changed=None, ending=0):
        """The whole answer: all that isn't named in after and changed has to be as it was, but pc."""
        state, answer = self.ask(word, before, memory)
        expected = list(state)
        if ending != 2:
            expected[36] = (state[36] // 4 * 4 + 4) % 2 ** 32
        expected = changed_state(expected, after or {})
        self.check_answer(answer, [ending] + expected + told(changed or {}), 1, f"{word:08x} with {before}")

    def check_none(self, word, before=None, memory=None):
        answer = self.ask(word, before, memory)[1]
        self.assertEqual(answer, [-1], f"{word:08x}")


def run_by_steps(steps, state, memory):
    """What run has to answer, found by step alone: what one step answers is handed to the next."""
    now = dict(memory)
    done = 0
    why = 0
    while why == 0 and done < steps:
        answer = step(state, list(now), list(now.values()))
        why = answer[0] if answer != [-1] else 3
        if why < 2:
            done += 1
            state = answer[1:39]
            now.update(zip(answer[39::2], answer[40::2]))
    return [done, why] + state + told(real_changes(memory, now))


class RunCase(AnswerCase):
    def ask(self, steps, words, before=None, memory=None):
        """The state that was handed in, and the answer; the words are laid from pc on."""
        state = changed_state(start(), before or {})
        whole = dict(memory or {})
        whole.update(lay_words(state[36] // 4 * 4, words))
        answer = self.call_twice(run, steps, state, list(whole), list(whole.values()))
        if steps <= 1000:
            self.check_answer(answer, run_by_steps(steps, state, whole), 2, f"{steps} steps, otherwise by step")
        return state, answer

    def check(self, steps, words, done, why, before=None, after=None, memory=None, changed=None):
        """The whole answer: all that isn't named in after and changed has to be as it was, but pc."""
        state, answer = self.ask(steps, words, before, memory)
        expected = list(state)
        if done:
            expected[36] = (state[36] // 4 * 4 + 4 * done) % 2 ** 32
        expected = changed_state(expected, after or {})
        self.check_answer(answer, [done, why] + expected + told(changed or {}), 2, f"{steps} steps with {before}")
