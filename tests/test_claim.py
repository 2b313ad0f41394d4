"""claim: whether what is said shows that nothing bad is ever come to."""

import unittest

from tests.helper import (ask, ask_after, ask_last, bad, claim, counter, first, is_state, next_bit,
                          one_of, ring, start)


class Shown(unittest.TestCase):
    def test_at_the_beginning(self):
        told = ask(claim([0]), claim([1]), claim([2, 0]), claim([4, 2, 1]), claim([7, 2, 0, 2, 1]))
        self.assertEqual(told, [[1]] * 5)

    def test_it_holds_the_first_state_and_is_kept(self):
        told = [next_bit(0, [1]), first(is_state(2, 0)), bad([2, 1])]
        self.assertEqual(ask_last(*told, claim([4, 2, 1])), [1])

    def test_whatever_the_inputs(self):
        told = [next_bit(0, [3, 0]), next_bit(1, [5, 2, 0, 4, 3, 0]), first(is_state(2, 0)), bad(is_state(2, 3))]
        self.assertEqual(ask_last(*told, claim([4, 5, 2, 0, 2, 1])), [1])

    def test_of_no_state_if_none_is_first(self):
        for n in range(1, 7):
            self.assertEqual(ask_last(start(n, 2), *counter(n), bad([1]), claim([0])), [1])

    def test_of_every_state_if_none_is_bad(self):
        for n in range(1, 7):
            self.assertEqual(ask_last(start(n, 0), *counter(n), first([1]), claim([1])), [1])

    def test_bad_states_outside_may_go_where_they_like(self):
        told = [start(2, 0), *counter(2), first([0]), bad(is_state(2, 3)), claim([0])]
        self.assertEqual(ask_last(*told), [1])
        # 2 and 3, which are outside, go inside and to one another.
        told = [start(2, 0), next_bit(0, [4, 2, 0]), next_bit(1, [0]), first(is_state(2, 1)), bad([2, 1])]
        self.assertEqual(ask_last(*told, claim([4, 2, 1])), [1])

    def test_six_bits(self):
        one = [7, 2, 0, 7, 2, 1, 7, 2, 2, 7, 2, 3, 7, 2, 4, 2, 5]
        told = [start(6, 2), *ring(6), first(is_state(6, 1)), bad(is_state(6, 3))]
        self.assertEqual(ask_after(told, claim(one), claim([4] + one)), [[1], [0, 1, 1]])


class FirstStates(unittest.TestCase):
    def test_one_that_is_not_in_it(self):
        for state in range(4):
            told = ask_last(first(is_state(2, state)), claim([4] + is_state(2, state)))
            self.assertEqual(told, [0, 1, state])

    def test_the_least_of_several(self):
        self.assertEqual(ask_last(start(3, 1), first([2, 1]), claim([2, 0])), [0, 1, 2])
        self.assertEqual(ask_last(start(3, 1), first([2, 1]), claim([4, 2, 0])), [0, 1, 3])
        self.assertEqual(ask_last(start(6, 1), first([2, 5]), claim([0])), [0, 1, 32])
        self.assertEqual(ask_last(start(6, 1), first([2, 5]), claim([4, 5, 2, 4, 2, 3])), [0, 1, 56])

    def test_told_ahead_of_the_other_two(self):
        told = [start(2, 0), *counter(2), first(is_state(2, 0)), bad(is_state(2, 2))]
        self.assertEqual(ask_last(*told, claim([2, 1])), [0, 1, 0])


class Next(unittest.TestCase):
    def test_it_is_left(self):
        told = [start(2, 0), *counter(2), first(is_state(2, 0))]
        self.assertEqual(ask_after(told, claim([4, 2, 1]), claim(is_state(2, 0))), [[0, 2, 1, 0], [0, 2, 0, 0]])

    def test_from_states_that_no_run_comes_to(self):
        told = [next_bit(0, [2, 1]), first(is_state(2, 0)), bad(is_state(2, 3)), claim([4, 2, 0])]
        self.assertEqual(ask_last(*told), [0, 2, 2, 0])

    def test_the_least_state_then_the_least_inputs(self):
        # Out by input 1, whatever input 0 is.
        self.assertEqual(ask_last(start(2, 2), next_bit(0, [3, 1]), claim([4, 2, 0])), [0, 2, 0, 2])
        # From 0 by both together alone, from 2 by any: 0 is the lesser.
        told = [start(2, 2), next_bit(0, [6, 2, 1, 5, 3, 0, 3, 1])]
        self.assertEqual(ask_last(*told, claim([4, 2, 0])), [0, 2, 0, 3])
        self.assertEqual(ask_last(*told, claim(is_state(2, 2))), [0, 2, 2, 0])
        # 0 stays without input 0, and goes to 1 by it.
        self.assertEqual(ask_last(next_bit(0, [3, 0]), claim(is_state(2, 0))), [0, 2, 0, 1])

    def test_six_bits(self):
        told = [start(6, 2), next_bit(5, [5, 2, 4, 5, 2, 3, 3, 1]), first(is_state(6, 0))]
        self.assertEqual(ask_last(*told, claim([4, 2, 5])), [0, 2, 24, 2])

    def test_told_ahead_of_a_bad_state(self):
        told = [start(2, 0), *counter(2), bad(is_state(2, 2))]
        self.assertEqual(ask_last(*told, claim([2, 1])), [0, 2, 3, 0])
        self.assertEqual(ask_last(*told, first(is_state(2, 3)), claim([2, 1])), [0, 2, 3, 0])


class Bad(unittest.TestCase):
    def test_a_bad_state_is_in_it(self):
        self.assertEqual(ask_last(first(is_state(2, 0)), bad(is_state(2, 3)), claim([1])), [0, 3, 3])
        self.assertEqual(ask_last(bad(is_state(2, 0)), claim([1])), [0, 3, 0])

    def test_the_least_of_several(self):
        self.assertEqual(ask_last(start(3, 1), bad([2, 0]), claim([2, 1])), [0, 3, 3])
        self.assertEqual(ask_last(start(6, 0), *counter(6), bad([2, 4]), claim([1])), [0, 3, 16])

    def test_a_bad_state_that_is_first(self):
        told = [first(is_state(2, 1)), bad(one_of([is_state(2, 1), is_state(2, 2)]))]
        self.assertEqual(ask_after(told, claim([1]), claim([2, 0]), claim([0])), [[0, 3, 1], [0, 3, 1], [0, 1, 1]])


class Condition(unittest.TestCase):
    def test_it_is_not_kept(self):
        told = [first(is_state(2, 0)), bad(is_state(2, 3))]
        self.assertEqual(ask_after(told, claim([1]), claim([4, 2, 1]), claim([1])), [[0, 3, 3], [1], [0, 3, 3]])

    def test_no_input_stands_in_it(self):
        for m in range(3):
            for condition in ([3, 0], [3, 1], [5, 0, 3, 0], [8, 1, 1, 3, 0], [4, 3, 0]):
                self.assertEqual(ask_last(start(2, m), claim(condition)), [-1], (m, condition))

    def test_the_last_bit_that_is_there(self):
        for n in range(1, 7):
            self.assertEqual(ask(start(n, 1), claim([2, n - 1]), claim([2, n]))[1:], [[1], [-1]])


if __name__ == "__main__":
    unittest.main()
