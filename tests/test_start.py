import unittest

from tests.helper import (DOOM, REACH, WAY, ask, ask_last, bad, first,
                          is_state, next_bit, start)

HUGE = 4294967295


class Start(unittest.TestCase):
    def test_answers_how_many_states_there_are(self):
        for n in range(1, 7):
            for m in range(3):
                self.assertEqual(ask(start(n, m)), [[2 ** n]], (n, m))

    def test_refuses_other_numbers_of_bits(self):
        for n in (0, 7, 8, 64, HUGE):
            for m in range(3):
                self.assertEqual(ask(start(n, m)), [[-1]], (n, m))

    def test_refuses_other_numbers_of_inputs(self):
        for m in (3, 4, HUGE):
            for n in (1, 6):
                self.assertEqual(ask(start(n, m)), [[-1]], (n, m))

    def test_refuses_once_if_both_are_wrong(self):
        self.assertEqual(ask(start(0, 3)), [[-1]])
        self.assertEqual(ask(start(HUGE, HUGE)), [[-1]])

    def test_a_refusal_leaves_all_as_it_was(self):
        for wrong in (start(0, 1), start(7, 0), start(1, 3)):
            told = ask(start(3, 2), next_bit(0, [3, 1]), first(is_state(3, 4)),
                       bad(is_state(3, 5)), wrong, REACH, WAY, DOOM,
                       next_bit(2, [3, 1]), next_bit(3, [1]))
            self.assertEqual(told[4:], [[-1], [2, 1, 2], [1, 1, 4, 2, 5], [2, 1, 2],
                                        [2], [-2]], wrong)


class Beginning(unittest.TestCase):
    def test_no_state_is_first_and_none_is_bad(self):
        self.assertEqual(ask(REACH, WAY, DOOM), [[1, 0], [0], [1, 0]])

    def test_there_are_four_states(self):
        self.assertEqual(ask(first([1]), bad([1])), [[4], [4]])

    def test_there_are_two_bits(self):
        self.assertEqual(ask(first([2, 1]), bad([2, 1])), [[2], [2]])
        self.assertEqual(ask(first([2, 2]), bad([2, 2])), [[-1], [-1]])
        self.assertEqual(ask(next_bit(1, [0]), next_bit(2, [0])), [[1], [-2]])

    def test_there_is_one_input(self):
        self.assertEqual(ask(next_bit(0, [3, 0]), next_bit(0, [3, 1])), [[0], [-1]])

    def test_each_bit_stays_as_it_is(self):
        for state in range(4):
            for other in range(4):
                told = ask(first(is_state(2, state)), bad(is_state(2, other)), REACH, WAY, DOOM)
                way = [1, 0, state] if state == other else [0]
                self.assertEqual(told, [[1], [1], [1, 1], way, [1, 1]])


class StartOnceMore(unittest.TestCase):
    def test_no_state_is_first_and_none_is_bad(self):
        self.assertEqual(ask(first([1]), bad([1]), start(2, 1), REACH, WAY, DOOM)[2:],
                         [[4], [1, 0], [0], [1, 0]])

    def test_each_bit_stays_as_it_is(self):
        told = ask(next_bit(0, [3, 0]), next_bit(1, [4, 2, 1]), start(2, 1),
                   first(is_state(2, 1)), REACH, bad(is_state(2, 2)), WAY, DOOM)
        self.assertEqual(told[3:], [[1], [1, 1], [1], [0], [1, 1]])

    def test_bits_and_inputs_are_those_told_last(self):
        told = ask(start(6, 2), start(1, 0), first([2, 1]), first([2, 0]),
                   next_bit(1, [1]), next_bit(0, [3, 0]))
        self.assertEqual(told[2:], [[-1], [1], [-2], [-1]])
        told = ask(start(1, 0), start(6, 2), first([2, 5]), next_bit(5, [3, 1]))
        self.assertEqual(told[2:], [[32], [5]])

    def test_each_bit_stays_on_machines_of_every_size(self):
        for n in range(1, 7):
            for m in range(3):
                for state in (0, 1, 2 ** n - 1):
                    told = ask(start(n, m), first(is_state(n, state)), bad([1]), REACH, WAY, DOOM)
                    self.assertEqual(told[3:], [[1, 1], [1, 0, state], [1, 2 ** n]])

    def test_a_machine_can_be_told_anew_behind_it(self):
        self.assertEqual(ask_last(start(1, 2), first([1]), start(1, 1), next_bit(0, [3, 0]),
                                  first([2, 0]), REACH), [2, 1, 2])


if __name__ == "__main__":
    unittest.main()
