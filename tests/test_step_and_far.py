"""step and far: from one state on."""

import unittest

from tests.helper import (DOOM, ask, ask_after, ask_last, bad, counter, far, first, is_state,
                          next_bit, one_of, ring, start, step)

HUGE = 4294967295


class Step(unittest.TestCase):
    def test_at_the_beginning_each_state_stays(self):
        for state in range(4):
            self.assertEqual(ask(step(state, 0), step(state, 1)), [[state], [state]])

    def test_each_state_stays_behind_a_start(self):
        for n in range(1, 7):
            for m in range(3):
                for state in range(2 ** n):
                    told = ask_after([start(n, m)], *[step(state, inputs) for inputs in range(2 ** m)])
                    self.assertEqual(told, [[state]] * 2 ** m)

    def test_a_counter(self):
        for n in range(1, 7):
            for state in range(2 ** n):
                told = ask_after([start(n, 1), *counter(n)], step(state, 0), step(state, 1))
                self.assertEqual(told, [[(state + 1) % 2 ** n]] * 2)

    def test_inputs(self):
        told = [start(3, 2), next_bit(0, [3, 0]), next_bit(1, [3, 1]), next_bit(2, [7, 2, 2, 5, 3, 0, 3, 1])]
        self.assertEqual(ask_after(told, *[step(0, inputs) for inputs in range(4)]), [[0], [1], [2], [7]])
        self.assertEqual(ask_after(told, *[step(7, inputs) for inputs in range(4)]), [[4], [5], [6], [3]])

    def test_no_such_state(self):
        for n in range(1, 7):
            last = 2 ** n - 1
            told = ask_after([start(n, 1), *ring(n)], step(last, 0), step(last + 1, 0), step(last + 2, 1), step(HUGE, 0))
            self.assertEqual(told, [[last], [-2], [-2], [-2]])

    def test_no_such_inputs(self):
        for m in range(3):
            last = 2 ** m - 1
            told = ask_after([start(2, m)], step(3, last), step(3, last + 1), step(0, last + 2), step(0, HUGE))
            self.assertEqual(told, [[3], [-2], [-2], [-2]])

    def test_neither(self):
        self.assertEqual(ask(step(4, 2), step(HUGE, HUGE)), [[-2], [-2]])

    def test_a_bad_state_goes_on(self):
        self.assertEqual(ask_last(*counter(2), bad([1]), step(1, 0)), [2])


class Far(unittest.TestCase):
    def test_at_the_beginning(self):
        self.assertEqual(ask(*[far(state) for state in range(4)]), [[0]] * 4)

    def test_a_bad_state(self):
        told = [start(3, 1), *counter(3), bad([2, 1])]
        self.assertEqual(ask_after(told, far(2), far(3), far(6), far(7)), [[1, 0]] * 4)

    def test_a_counter(self):
        for n in range(1, 7):
            last = 2 ** n - 1
            for state in range(2 ** n):
                told = ask_last(start(n, 0), *counter(n), bad(is_state(n, last)), far(state))
                self.assertEqual(told, [1, last - state])

    def test_nothing_bad_is_ever_come_to(self):
        told = [start(3, 1), *ring(3), bad(is_state(3, 7))]
        self.assertEqual(ask_after(told, *[far(state) for state in range(8)]), [[0]] * 7 + [[1, 0]])

    def test_the_fewest_steps(self):
        # By input 0 one up, by input 1 straight to 3, by both it stays.
        told = [start(2, 2), next_bit(0, [8, 3, 1, 6, 2, 0, 4, 3, 0, 7, 2, 0, 3, 0]),
                next_bit(1, [8, 3, 1, 6, 2, 1, 4, 3, 0, 7, 2, 1, 5, 2, 0, 3, 0])]
        self.assertEqual(ask_after(told, step(0, 0), step(0, 1), step(1, 1), step(0, 2)), [[0], [1], [2], [3]])
        told += [bad(is_state(2, 3))]
        self.assertEqual(ask_after(told, *[far(state) for state in range(4)]), [[1, 1], [1, 1], [1, 1], [1, 0]])
        told += [bad(is_state(2, 2))]
        self.assertEqual(ask_after(told, *[far(state) for state in range(4)]), [[1, 2], [1, 1], [1, 0], [1, 3]])

    def test_the_nearest_bad_state(self):
        told = [start(3, 0), *counter(3), bad(one_of([is_state(3, 2), is_state(3, 7)]))]
        self.assertEqual(ask_after(told, *[far(state) for state in range(8)]),
                         [[1, steps] for steps in (2, 1, 0, 4, 3, 2, 1, 0)])

    def test_through_no_first_state_too(self):
        told = [start(2, 0), *counter(2), bad(is_state(2, 0))]
        self.assertEqual(ask_after(told, far(1), first(is_state(2, 2)), far(1), DOOM), [[1, 3], [1], [1, 3], [4, 1, 2, 3, 4]])

    def test_no_such_state(self):
        for n in range(1, 7):
            last = 2 ** n - 1
            told = ask_after([start(n, 2), bad([1])], far(last), far(last + 1), far(last + 2), far(HUGE))
            self.assertEqual(told, [[1, 0], [-2], [-2], [-2]])
            self.assertEqual(ask_last(start(n, 0), far(last + 1)), [-2])


if __name__ == "__main__":
    unittest.main()
