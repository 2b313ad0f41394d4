import unittest

from tests.helper import (DOOM, REACH, WAY, ask, ask_last, bad, claim, first,
                          is_state, next_bit, start)

HUGE = 4294967295


def states_where(n, condition):
    """The states in which the condition is so: of each, whether it's first."""
    found = []
    for state in range(2 ** n):
        told = ask(start(n, 0), first(condition), bad(is_state(n, state)), WAY)
        if told[-1] == [1, 0, state]:
            found.append(state)
    assert ask_last(start(n, 0), first(condition)) == [len(found)]
    assert ask_last(start(n, 0), bad(condition)) == [len(found)]
    return found


class Kinds(unittest.TestCase):
    def test_never_and_always(self):
        self.assertEqual(states_where(3, [0]), [])
        self.assertEqual(states_where(3, [1]), list(range(8)))

    def test_bit(self):
        self.assertEqual(states_where(3, [2, 0]), [1, 3, 5, 7])
        self.assertEqual(states_where(3, [2, 1]), [2, 3, 6, 7])
        self.assertEqual(states_where(3, [2, 2]), [4, 5, 6, 7])

    def test_not(self):
        self.assertEqual(states_where(2, [4, 2, 0]), [0, 2])
        self.assertEqual(states_where(2, [4, 4, 2, 0]), [1, 3])

    def test_both(self):
        self.assertEqual(states_where(2, [5, 2, 0, 2, 1]), [3])

    def test_at_least_one(self):
        self.assertEqual(states_where(2, [6, 2, 0, 2, 1]), [1, 2, 3])

    def test_one_and_not_the_other(self):
        self.assertEqual(states_where(2, [7, 2, 0, 2, 1]), [1, 2])

    def test_if_then_else(self):
        # Bit 1 where bit 0 is 1, else bit 2.
        self.assertEqual(states_where(3, [8, 2, 0, 2, 1, 2, 2]), [3, 4, 6, 7])
        # Bit 0 where bit 2 is 1, else bit 1.
        self.assertEqual(states_where(3, [8, 2, 2, 2, 0, 2, 1]), [2, 3, 5, 7])

    def test_nested(self):
        # (bit 0 or not bit 1) and (bit 2 if bit 1 else bit 0)
        self.assertEqual(states_where(3, [5, 6, 2, 0, 4, 2, 1, 8, 2, 1, 2, 2, 2, 0]), [1, 5, 7])
        # not (bit 0 xor (bit 1 xor bit 2)), told to the left and to the right
        self.assertEqual(states_where(3, [4, 7, 2, 0, 7, 2, 1, 2, 2]), [0, 3, 5, 6])
        self.assertEqual(states_where(3, [4, 7, 7, 2, 0, 2, 1, 2, 2]), [0, 3, 5, 6])
        # an if within each place of an if
        self.assertEqual(states_where(2, [8, 8, 2, 0, 0, 1, 8, 2, 1, 1, 0, 8, 2, 1, 0, 1]), [1, 2])

    def test_highest_bit_of_many(self):
        self.assertEqual(ask_last(start(6, 0), first([2, 5])), [32])
        self.assertEqual(ask_last(start(6, 0), bad([5, 2, 5, 4, 2, 0])), [16])


class Inputs(unittest.TestCase):
    def ways(self, m, condition):
        """From state 0 of one bit, the answer of way to state 1."""
        return ask_last(start(1, m), next_bit(0, condition), first([4, 2, 0]), bad([2, 0]), WAY)

    def test_one_input(self):
        self.assertEqual(self.ways(1, [3, 0]), [1, 1, 0, 1, 1])
        self.assertEqual(self.ways(1, [4, 3, 0]), [1, 1, 0, 0, 1])
        self.assertEqual(self.ways(1, [5, 3, 0, 4, 3, 0]), [0])

    def test_two_inputs(self):
        self.assertEqual(self.ways(2, [3, 0]), [1, 1, 0, 1, 1])
        self.assertEqual(self.ways(2, [3, 1]), [1, 1, 0, 2, 1])
        self.assertEqual(self.ways(2, [5, 3, 0, 3, 1]), [1, 1, 0, 3, 1])
        self.assertEqual(self.ways(2, [6, 3, 0, 3, 1]), [1, 1, 0, 1, 1])
        self.assertEqual(self.ways(2, [8, 3, 0, 0, 3, 1]), [1, 1, 0, 2, 1])
        self.assertEqual(self.ways(2, [8, 3, 1, 3, 0, 0]), [1, 1, 0, 3, 1])

    def test_state_and_inputs_together(self):
        # Bit 0 turns where input 0 is 1.
        calls = [start(1, 1), next_bit(0, [7, 2, 0, 3, 0])]
        self.assertEqual(ask_last(*calls, first([4, 2, 0]), bad([2, 0]), WAY), [1, 1, 0, 1, 1])
        self.assertEqual(ask_last(*calls, first([2, 0]), bad([4, 2, 0]), WAY), [1, 1, 1, 1, 0])

    def test_no_input_goes_on_by_inputs_0(self):
        calls = [start(1, 0), next_bit(0, [4, 2, 0]), first([4, 2, 0]), bad([2, 0])]
        self.assertEqual(ask(*calls, REACH, WAY, DOOM)[4:], [[2, 1, 2], [1, 1, 0, 0, 1], [2, 1, 2]])


REFUSED = {
    "empty": [],
    "not breaks off": [4],
    "bit breaks off": [2],
    "bit within breaks off": [5, 1, 2],
    "both breaks off": [5, 1],
    "both without any": [5],
    "either breaks off": [6, 2, 0],
    "one alone breaks off": [7, 0],
    "if breaks off": [8, 1, 1],
    "if without any": [8],
    "left over": [1, 1],
    "left over behind a bit": [2, 0, 0],
    "left over, two whole ones": [2, 0, 2, 1],
    "left over behind both": [5, 1, 1, 0],
    "left over that breaks off": [1, 5],
    "left over, not": [1, 4],
    "left over, nots": [2, 0, 4, 4],
    "left over, both and one": [1, 5, 1],
    "left over, either and one": [2, 0, 6, 2, 1],
    "left over, if and two": [1, 8, 1, 1],
    "above 8": [9],
    "above 8 within": [5, 1, 9],
    "above 8 left over": [1, 9],
    "far above 8": [HUGE],
    "no such bit": [2, 2],
    "no such bit within": [6, 1, 2, 2],
    "far from such a bit": [2, HUGE],
}


class Refused(unittest.TestCase):
    def test_what_is_not_one_condition_of_what_is_there(self):
        for name, condition in REFUSED.items():
            with self.subTest(name):
                told = ask(next_bit(0, condition), first(condition), bad(condition), claim(condition))
                self.assertEqual(told, [[-1]] * 4)

    def test_no_such_input(self):
        for m in range(3):
            for condition in ([3, m], [4, 3, m], [3, HUGE], [8, 0, 3, m, 1]):
                self.assertEqual(ask_last(start(2, m), next_bit(0, condition)), [-1], (m, condition))
        self.assertEqual(ask_last(start(2, 1), next_bit(0, [3])), [-1])
        self.assertEqual(ask_last(start(2, 1), next_bit(0, [3, 0])), [0])
        self.assertEqual(ask_last(start(2, 2), next_bit(1, [3, 1])), [1])

    def test_first_bad_and_claim_have_no_input(self):
        for m in range(3):
            for condition in ([3, 0], [3, 1], [5, 0, 3, 0], [8, 1, 1, 3, 0]):
                told = ask(start(2, m), first(condition), bad(condition), claim(condition))
                self.assertEqual(told[1:], [[-1]] * 3, (m, condition))

    def test_last_bit_that_is_there(self):
        for n in range(1, 7):
            told = ask(start(n, 0), first([2, n - 1]), bad([2, n - 1]), next_bit(n - 1, [2, n - 1]),
                       first([2, n]), bad([2, n]), next_bit(n - 1, [2, n]))
            half = 2 ** n // 2
            self.assertEqual(told[1:], [[half], [half], [n - 1], [-1], [-1], [-1]])

    def test_no_bit_to_be_set(self):
        for n in range(1, 7):
            for i in (n, n + 1, 64, HUGE):
                self.assertEqual(ask_last(start(n, 0), next_bit(i, [1])), [-2], (n, i))
            self.assertEqual(ask_last(start(n, 0), next_bit(n - 1, [1])), [n - 1])

    def test_no_bit_is_told_ahead_of_a_wrong_condition(self):
        for name, condition in REFUSED.items():
            with self.subTest(name):
                self.assertEqual(ask(next_bit(2, condition), next_bit(HUGE, condition)), [[-2], [-2]])
        self.assertEqual(ask(next_bit(2, [4] * 40 + [1])), [[-2]])
        self.assertEqual(ask(next_bit(2, [3, 1])), [[-2]])


class Length(unittest.TestCase):
    def told(self, condition):
        return ask(next_bit(0, condition), first(condition), bad(condition))

    def test_forty_numbers(self):
        self.assertEqual(self.told([4] * 39 + [0]), [[0], [4], [4]])
        self.assertEqual(self.told([4] * 38 + [2, 1]), [[0], [2], [2]])
        # both, thirteen times, of a bit each: 13 + 2 * 13 + 1 numbers
        self.assertEqual(self.told([5] * 13 + [2, 0] * 13 + [1]), [[0], [2], [2]])

    def test_forty_one_numbers(self):
        self.assertEqual(self.told([4] * 40 + [0]), [[-1], [-1], [-1]])
        self.assertEqual(self.told([4] * 39 + [2, 1]), [[-1], [-1], [-1]])
        self.assertEqual(self.told([5] * 13 + [2, 0] * 14), [[-1], [-1], [-1]])
        self.assertEqual(self.told([5] * 20 + [1] * 21), [[-1], [-1], [-1]])

    def test_sixty_numbers(self):
        self.assertEqual(self.told([4] * 59 + [1]), [[-1], [-1], [-1]])
        self.assertEqual(self.told([1] * 60), [[-1], [-1], [-1]])

    def test_a_claim(self):
        # Bit 0 turns, and 3 is bad.
        told = [next_bit(0, [4, 2, 0]), bad(is_state(2, 3))]
        self.assertEqual(ask_last(*told, claim([4] * 38 + [2, 1])), [0, 3, 3])
        self.assertEqual(ask_last(*told, claim([4] * 37 + [2, 1])), [1])
        self.assertEqual(ask_last(*told, claim([5] * 13 + [2, 0] * 13 + [1])), [0, 2, 1, 0])
        for condition in ([4] * 39 + [2, 1], [4] * 40 + [0], [5] * 13 + [2, 0] * 14, [4] * 59 + [1], [1] * 60):
            self.assertEqual(ask_last(*told, claim(condition)), [-1])

    def test_nested_to_the_left_and_to_the_right(self):
        self.assertEqual(self.told([7] * 13 + [2, 0] * 13 + [1]), [[0], [2], [2]])
        right = [1]
        for place in range(13):
            right = [7, 2, place % 2] + right
        self.assertEqual(len(right), 40)
        # seven times bit 0, six times bit 1, and always: it's so where bit 0 is 0
        self.assertEqual(self.told(right), [[0], [2], [2]])
        self.assertEqual(states_where(2, right), [0, 2])


class LeftAsItWas(unittest.TestCase):
    def test_behind_every_refusal(self):
        told_before = [start(2, 1), next_bit(0, [3, 0]), first(is_state(2, 2)), bad(is_state(2, 3))]
        good = [[2, 1, 2], [1, 1, 2, 1, 3], [2, 1, 2]]
        self.assertEqual(ask(*told_before, REACH, WAY, DOOM)[4:], good)
        for condition in list(REFUSED.values()) + [[4] * 40 + [1]]:
            for wrong in (next_bit(0, condition), next_bit(1, condition), next_bit(2, condition),
                          first(condition), bad(condition), claim(condition)):
                with self.subTest(wrong):
                    told = ask(*told_before, wrong, REACH, WAY, DOOM)
                    self.assertLess(told[4][0], 0)
                    self.assertEqual(told[5:], good)

    def test_behind_an_input_in_first_bad_or_claim(self):
        told = ask(first([2, 0]), bad([2, 1]), first([3, 0]), bad([3, 0]), claim([3, 0]), REACH, WAY, DOOM)
        self.assertEqual(told[2:], [[-1], [-1], [-1], [1, 2], [1, 0, 3], [1, 2]])


class ToldAnew(unittest.TestCase):
    def test_the_last_condition_counts(self):
        told = ask(first([1]), first(is_state(2, 1)), bad([1]), bad(is_state(2, 2)), REACH, DOOM, WAY)
        self.assertEqual(told, [[4], [1], [4], [1], [1, 1], [1, 1], [0]])

    def test_a_bit_told_anew_leaves_the_others(self):
        told = ask(next_bit(0, [1]), next_bit(1, [1]), next_bit(0, [3, 0]), first(is_state(2, 0)),
                   REACH, bad(is_state(2, 2)), WAY, DOOM)
        self.assertEqual(told[3:], [[1], [2, 1, 3], [1], [1, 1, 0, 0, 2], [2, 1, 4]])

    def test_all_bits_change_at_once(self):
        # Two bits that swap: 1 goes to 2 and 2 to 1, whichever is told first.
        for calls in ([next_bit(0, [2, 1]), next_bit(1, [2, 0])], [next_bit(1, [2, 0]), next_bit(0, [2, 1])]):
            told = ask(*calls, first(is_state(2, 1)), bad(is_state(2, 2)), WAY, REACH)
            self.assertEqual(told[4:], [[1, 1, 1, 0, 2], [2, 1, 2]])


if __name__ == "__main__":
    unittest.main()
