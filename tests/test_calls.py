"""What a call is handed is never changed, and nothing is kept from one call to the next."""

from highfirst.desk import step

from tests.support import PC, StepCase, bytes_of, changed_state, lay, plain, start, three


class Sealed(list):
    """A list that can't be changed, not for a while either."""

    def refuse(self, *given):
        raise AssertionError("what is handed in was changed")

    __setitem__ = __delitem__ = __iadd__ = __imul__ = refuse
    append = extend = insert = pop = remove = clear = sort = reverse = refuse


WORDS = (
    plain(14, 3, 4, 1), plain(13, 3, 4, 1), plain(36, 3, 4, 0), plain(37, 3, 4, 8), plain(46, 3, 4, 0),
    plain(47, 3, 4, 0), plain(16, 0, 2, 8) | 1, 17 << 26, plain(3, 31, 4, 0), 0, three(19, 20, 0, 0, 16, 1),
    three(31, 3, 4, 5, 778, 1), three(31, 3, 4, 5, 20), three(31, 3, 4, 5, 150, 1), three(31, 3, 4, 5, 533),
    three(31, 3, 4, 5, 661), three(31, 0, 4, 5, 1014), three(31, 3, 1, 0, 467), three(31, 4, 0, 0, 512),
)


class Calls(StepCase):
    def handed(self, word):
        state = changed_state(start(), {4: 0x3000, 5: 4, "held": 1})
        memory = lay(0x3000, range(1, 200))
        memory.update(lay(PC, bytes_of(word)))
        return state, list(memory), list(memory.values())

    def test_sealed_lists(self):
        for word in WORDS:
            state, places, given = self.handed(word)
            expected = step(state, places, given)
            self.assertEqual(step(Sealed(state), Sealed(places), Sealed(given)), expected)

    def test_nothing_is_kept(self):
        first = [step(*self.handed(word)) for word in WORDS]
        second = [step(*self.handed(word)) for word in reversed(WORDS)]
        self.assertEqual(first, list(reversed(second)))

    def test_an_answer_is_the_callers_own(self):
        for word in WORDS:
            answer = step(*self.handed(word))
            kept = list(answer)
            answer.clear()
            self.assertEqual(step(*self.handed(word)), kept)

    def test_endings_told(self):
        endings = {plain(14, 3, 4, 1): 0, 17 << 26: 1, plain(3, 31, 4, 0): 2}
        for word, ending in endings.items():
            answer = step(*self.handed(word))
            self.assertEqual((answer[0], len(answer)), (ending, 39))
        self.assertEqual(step(*self.handed(0)), [-1])
