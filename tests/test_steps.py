"""steps: how long a row of states may be that ends in a bad one."""

import unittest

from tests.helper import (STEPS, WAY, ask, ask_after, ask_last, bad, counter, first, is_state,
                          next_bit, one_of, ring, start)


def shift(n):
    """Calls by which each bit goes one up, and bit 0 is 0 next."""
    return [next_bit(0, [0])] + [next_bit(bit, [2, bit - 1]) for bit in range(1, n)]


class NotSafe(unittest.TestCase):
    def test_a_first_state_is_bad(self):
        self.assertEqual(ask_last(first(is_state(2, 1)), bad(is_state(2, 1)), STEPS), [0])
        self.assertEqual(ask_last(first([1]), bad([1]), STEPS), [0])

    def test_a_run_comes_to_a_bad_state(self):
        for n in range(1, 7):
            told = [start(n, 0), *counter(n), first(is_state(n, 0)), bad(is_state(n, 2 ** n - 1))]
            self.assertEqual(ask_last(*told, STEPS), [0])

    def test_there_would_be_such_a_k(self):
        # From 1 it takes three steps to 8, and nothing goes to 1.
        told = [start(4, 1), *shift(4), bad([2, 3])]
        self.assertEqual(ask_last(*told, first(is_state(4, 0)), STEPS), [1, 4])
        for state in (1, 2, 4, 8):
            self.assertEqual(ask_last(*told, first(is_state(4, state)), STEPS), [0])


class Safe(unittest.TestCase):
    def test_no_state_is_bad(self):
        self.assertEqual(ask(STEPS), [[1, 0]])
        for n in range(1, 7):
            told = ask(start(n, 1), *counter(n), first(is_state(n, 0)), STEPS, bad([0]), STEPS)
            self.assertEqual(told[-3::2], [[1, 0], [1, 0]])

    def test_nothing_goes_to_a_bad_state(self):
        for n in range(1, 7):
            self.assertEqual(ask_last(start(n, 2), first(is_state(n, 0)), bad([2, n - 1]), STEPS), [1, 1])

    def test_only_bad_states_go_to_bad_states(self):
        told = [next_bit(0, [4, 2, 0]), first(is_state(2, 0)), bad([2, 1])]
        self.assertEqual(ask_last(*told, STEPS), [1, 1])

    def test_all_states_are_bad(self):
        for n in range(1, 7):
            self.assertEqual(ask_last(start(n, 1), *counter(n), bad([1]), STEPS), [1, 1])

    def test_as_many_as_there_are_states(self):
        for n in range(1, 7):
            self.assertEqual(ask_last(start(n, 0), *counter(n), bad(is_state(n, 2 ** n - 1)), STEPS), [1, 2 ** n])
            self.assertEqual(ask_last(start(n, 2), *counter(n), bad(is_state(n, 0)), STEPS), [1, 2 ** n])

    def test_more_than_one(self):
        for n in range(2, 7):
            self.assertEqual(ask_last(start(n, 0), *shift(n), first(is_state(n, 0)), bad([2, n - 1]), STEPS), [1, n])

    def test_the_longest_row_counts_not_the_shortest(self):
        # A counter: one row to 2 has two states ahead of it, one to 7 has four.
        told = [start(3, 0), *counter(3), bad(one_of([is_state(3, 2), is_state(3, 7)]))]
        self.assertEqual(ask_last(*told, STEPS), [1, 5])

    def test_a_row_does_not_lead_through_bad_states(self):
        told = [start(3, 0), *counter(3), bad([5, 2, 0, 2, 1])]
        self.assertEqual(ask_last(*told, STEPS), [1, 4])
        self.assertEqual(ask_last(start(3, 0), *counter(3), bad([2, 0]), STEPS), [1, 2])

    def test_a_longer_way_by_other_inputs(self):
        # From 1 to 3 at once by the input, without it through 2.
        told = [start(2, 1), next_bit(0, [8, 2, 0, 3, 0, 2, 1]), next_bit(1, [6, 2, 0, 2, 1]),
                first(is_state(2, 0)), bad(is_state(2, 3))]
        self.assertEqual(ask_last(*told, STEPS), [1, 3])


class GoesRound(unittest.TestCase):
    def test_a_state_that_stays_and_may_leave(self):
        # 1 stays, or goes to 3 by the input; 0 stays for ever.
        told = [next_bit(1, [5, 2, 0, 3, 0]), bad(is_state(2, 3))]
        self.assertEqual(ask_last(*told, first(is_state(2, 0)), STEPS), [0])
        self.assertEqual(ask_last(*told, STEPS), [0])
        self.assertEqual(ask_after(told, first(is_state(2, 0)), WAY)[1], [0])

    def test_two_inputs_and_one_alone_that_leads_out(self):
        told = [start(2, 2), next_bit(1, [5, 2, 0, 5, 3, 0, 3, 1]), bad(is_state(2, 3))]
        self.assertEqual(ask_last(*told, first(is_state(2, 0)), STEPS), [0])

    def test_several_states_that_go_round(self):
        # One bit goes round; by the input it's there twice: from 0 it never is.
        for n in range(2, 7):
            twice = [6, 2, n - 1, 5, 3, 0, 2, 0]
            told = [start(n, 1), *ring(n), next_bit(0, twice), first(is_state(n, 0)), bad([5, 2, 0, 2, 1])]
            self.assertEqual(ask_after(told, STEPS, WAY), [[0], [0]])

    def test_a_row_into_what_goes_round_is_not_enough(self):
        # 1 goes to 2, and 2 stays; 3 is bad, and nothing else goes there.
        told = [next_bit(0, [5, 2, 0, 2, 1]), next_bit(1, [6, 2, 0, 2, 1]), bad(is_state(2, 3))]
        self.assertEqual(ask_last(*told, first([4, 5, 2, 0, 2, 1]), STEPS), [1, 1])

    def test_what_goes_round_through_a_bad_state_alone(self):
        told = [start(2, 0), *counter(2), bad(is_state(2, 0))]
        self.assertEqual(ask_last(*told, STEPS), [1, 4])


if __name__ == "__main__":
    unittest.main()
