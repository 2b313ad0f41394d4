import unittest

from tests.helper import (DOOM, REACH, WAY, ask, ask_last, bad, counter,
                          first, is_state, next_bit, one_of, start)


class Reach(unittest.TestCase):
    def test_no_state_first(self):
        self.assertEqual(ask_last(start(3, 1), REACH), [1, 0])
        self.assertEqual(ask_last(start(3, 1), *counter(3), first([0]), REACH), [1, 0])

    def test_all_states_first(self):
        for n in range(1, 7):
            self.assertEqual(ask_last(start(n, 0), *counter(n), first([1]), REACH), [1, 2 ** n])

    def test_a_counter_comes_to_all_one_by_one(self):
        for n in range(1, 7):
            told = ask_last(start(n, 0), *counter(n), first(is_state(n, 0)), REACH)
            self.assertEqual(told, [2 ** n] + list(range(1, 2 ** n + 1)))

    def test_what_is_come_to_at_most(self):
        # From 0 and from 4, three steps up fill the eight.
        told = ask_last(start(3, 0), *counter(3), first([5, 4, 2, 0, 4, 2, 1]), REACH)
        self.assertEqual(told, [4, 2, 4, 6, 8])

    def test_the_last_number_is_the_last_that_is_more(self):
        # 0 goes to 1, 1 stays: 2 and 3 are never come to.
        told = ask_last(start(2, 0), next_bit(0, [1]), first(is_state(2, 0)), REACH)
        self.assertEqual(told, [2, 1, 2])

    def test_first_states_that_are_left_still_count(self):
        # Every state goes to 0.
        told = ask_last(start(2, 0), next_bit(0, [0]), next_bit(1, [0]), first(is_state(2, 3)), REACH)
        self.assertEqual(told, [2, 1, 2])

    def test_inputs_open_several_ways(self):
        told = ask_last(start(4, 2), next_bit(0, [3, 0]), next_bit(1, [3, 1]), next_bit(2, [2, 0]),
                        next_bit(3, [2, 1]), first(is_state(4, 0)), REACH)
        self.assertEqual(told, [3, 1, 4, 16])
        told = ask_last(start(2, 1), next_bit(0, [3, 0]), next_bit(1, [2, 0]), first(is_state(2, 0)), REACH)
        self.assertEqual(told, [3, 1, 2, 4])

    def test_bad_states_do_not_stop_a_run(self):
        told = ask_last(start(2, 0), *counter(2), first(is_state(2, 0)), bad(is_state(2, 1)), REACH)
        self.assertEqual(told, [4, 1, 2, 3, 4])


class Doom(unittest.TestCase):
    def test_none_bad(self):
        self.assertEqual(ask_last(start(3, 1), DOOM), [1, 0])
        self.assertEqual(ask_last(start(3, 1), *counter(3), first([1]), bad([0]), DOOM), [1, 0])

    def test_all_bad(self):
        for n in range(1, 7):
            self.assertEqual(ask_last(start(n, 2), *counter(n), bad([1]), DOOM), [1, 2 ** n])

    def test_a_counter_is_doomed_one_by_one(self):
        for n in range(1, 7):
            told = ask_last(start(n, 0), *counter(n), bad(is_state(n, 0)), DOOM)
            self.assertEqual(told, [2 ** n] + list(range(1, 2 ** n + 1)))

    def test_the_last_number_is_the_last_that_is_more(self):
        # 0 goes to 1, and 2 goes to 3; 1 and 3 stay.
        told = ask_last(start(2, 0), next_bit(0, [1]), bad(is_state(2, 1)), DOOM)
        self.assertEqual(told, [2, 1, 2])
        told = ask_last(start(2, 0), next_bit(0, [1]), bad(is_state(2, 0)), DOOM)
        self.assertEqual(told, [1, 1])

    def test_it_is_of_all_states_not_of_runs_alone(self):
        told = ask_last(start(2, 0), *counter(2), first(is_state(2, 3)), bad(is_state(2, 3)), DOOM)
        self.assertEqual(told, [4, 1, 2, 3, 4])
        told = ask_last(start(2, 0), next_bit(1, [1]), first([0]), bad([2, 1]), DOOM)
        self.assertEqual(told, [2, 2, 4])

    def test_some_inputs_are_enough(self):
        told = ask_last(start(2, 2), next_bit(0, [5, 3, 0, 3, 1]), next_bit(1, [2, 0]),
                        bad(is_state(2, 3)), DOOM)
        self.assertEqual(told, [3, 1, 2, 4])

    def test_many_states_in_one_step(self):
        told = ask_last(start(6, 0), *[next_bit(i, [0]) for i in range(6)], bad(is_state(6, 0)), DOOM)
        self.assertEqual(told, [2, 1, 64])


class Way(unittest.TestCase):
    def test_no_way(self):
        self.assertEqual(ask_last(start(2, 1), first(is_state(2, 0)), bad(is_state(2, 1)), WAY), [0])

    def test_none_first_or_none_bad(self):
        self.assertEqual(ask_last(*counter(2), bad([1]), WAY), [0])
        self.assertEqual(ask_last(*counter(2), first([1]), WAY), [0])
        self.assertEqual(ask_last(*counter(2), WAY), [0])

    def test_a_first_state_that_is_bad(self):
        told = ask_last(start(3, 1), *counter(3), first([2, 1]), bad([2, 2]), WAY)
        self.assertEqual(told, [1, 0, 6])
        # The least first state, 0, takes more steps: it's not asked for.
        told = ask_last(start(3, 1), *counter(3), first([4, 2, 0]), bad(is_state(3, 6)), WAY)
        self.assertEqual(told, [1, 0, 6])

    def test_the_least_of_several_first_states_that_are_bad(self):
        self.assertEqual(ask_last(start(6, 2), first([2, 3]), bad([2, 5]), WAY), [1, 0, 40])

    def test_a_counter_goes_all_the_way(self):
        for n in range(1, 7):
            last = 2 ** n - 1
            told = ask_last(start(n, 0), *counter(n), first(is_state(n, 0)), bad(is_state(n, last)), WAY)
            path = [0]
            for state in range(1, last + 1):
                path += [0, state]
            self.assertEqual(told, [1, last] + path)

    def test_fewest_steps_ahead_of_the_least_first_state(self):
        # A counter: 0 takes three steps to 3, and 2 takes one.
        told = ask_last(start(2, 1), *counter(2), first([4, 2, 0]), bad(is_state(2, 3)), WAY)
        self.assertEqual(told, [1, 1, 2, 0, 3])

    def test_the_least_first_state_of_those_with_so_few_steps(self):
        # 2 and 6 take one step, 1 and 5 take two: a counter, bad are 3 and 7.
        told = ask_last(start(3, 0), *counter(3), first([7, 2, 0, 2, 1]), bad([5, 2, 0, 2, 1]), WAY)
        self.assertEqual(told, [1, 1, 2, 0, 3])
        # The least first state also where its inputs are greater than another's:
        # to 3 it takes 3 inputs from 1, and 0 inputs from 2.
        told = ask_last(start(2, 2), next_bit(0, [8, 2, 0, 5, 3, 0, 3, 1, 1]),
                        next_bit(1, [8, 2, 0, 5, 3, 0, 3, 1, 1]),
                        first([7, 2, 0, 2, 1]), bad(is_state(2, 3)), WAY)
        self.assertEqual(told, [1, 1, 1, 3, 3])

    def test_the_least_input_each_time(self):
        # Bit 0 is 1 next by input 0 or 1; then bit 1 by input 1 alone.
        told = ask_last(start(2, 2), next_bit(0, [6, 2, 0, 6, 3, 0, 3, 1]),
                        next_bit(1, [5, 2, 0, 3, 1]), first(is_state(2, 0)), bad([2, 1]), WAY)
        self.assertEqual(told, [1, 2, 0, 1, 1, 2, 3])

    def test_the_least_input_not_the_least_state(self):
        # By input 0 it's 2, by input 1 it's 1; both go on to 3.
        told = ask_last(start(2, 1), next_bit(0, [6, 3, 0, 6, 2, 0, 2, 1]),
                        next_bit(1, [6, 4, 3, 0, 6, 2, 0, 2, 1]),
                        first(is_state(2, 0)), bad(is_state(2, 3)), WAY)
        self.assertEqual(told, [1, 2, 0, 0, 2, 0, 3])

    def test_not_the_least_input_if_it_takes_no_step_less(self):
        # By input 0 the state stays, by input 1 it goes up.
        told = ask_last(start(2, 1), next_bit(0, [7, 2, 0, 3, 0]), next_bit(1, [7, 2, 1, 5, 2, 0, 3, 0]),
                        first(is_state(2, 0)), bad(is_state(2, 3)), WAY)
        self.assertEqual(told, [1, 3, 0, 1, 1, 1, 2, 1, 3])

    def test_through_states_that_are_not_first(self):
        told = ask_last(start(3, 0), *counter(3), first(is_state(3, 6)), bad(is_state(3, 1)), WAY)
        self.assertEqual(told, [1, 3, 6, 0, 7, 0, 0, 0, 1])

    def test_it_stops_at_the_first_bad_state(self):
        told = ask_last(start(3, 0), *counter(3), first(is_state(3, 0)),
                        bad(one_of([is_state(3, 2), is_state(3, 5)])), WAY)
        self.assertEqual(told, [1, 2, 0, 0, 1, 0, 2])


class AskedOnly(unittest.TestCase):
    def test_asking_changes_nothing(self):
        calls = [start(3, 1), *counter(3), first([2, 2]), bad(is_state(3, 1))]
        told = ask(*calls, REACH, WAY, DOOM, DOOM, WAY, REACH)[-6:]
        self.assertEqual(told[:3], told[:2:-1])
        self.assertEqual(told[0], [5, 4, 5, 6, 7, 8])
        self.assertEqual(told[1], [1, 2, 7, 0, 0, 0, 1])
        self.assertEqual(told[2], [8, 1, 2, 3, 4, 5, 6, 7, 8])


if __name__ == "__main__":
    unittest.main()
