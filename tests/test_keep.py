"""keep: which of some clauses hold for ever."""

import unittest

from tests.helper import (ask, ask_after, ask_last, bad, counter, first, is_state, keep, next_bit,
                          ring, start)

LEAST_LITERAL = -2147483648
GREATEST_LITERAL = 2147483647

# Bit 0 is as the input is, bit 1 as bit 0 was, bit 2 as bit 1 was.
BY_INPUT = [start(3, 1), next_bit(0, [3, 0]), next_bit(1, [2, 0]), next_bit(2, [2, 1])]


class Stays(unittest.TestCase):
    def test_at_the_beginning(self):
        self.assertEqual(ask(keep(), keep([1]), keep([-2], [1, 2])), [[0, 1], [1, 0, 1], [2, 0, 1, 1]])

    def test_no_clauses(self):
        for n in range(1, 7):
            told = ask(start(n, 2), *counter(n), keep(), first([1]), keep(), bad([2, n - 1]), keep())
            self.assertEqual(told[-5::2], [[0, 1], [0, 1], [0, 0]])

    def test_all(self):
        told = [first(is_state(2, 1)), bad([2, 1])]
        self.assertEqual(ask_last(*told, keep([1], [-2], [1, -2], [1, 2])), [4, 0, 1, 2, 3, 1])

    def test_none(self):
        told = [first(is_state(2, 1)), bad([2, 1])]
        self.assertEqual(ask_last(*told, keep([-1], [2], [-1, 2])), [0, 0])

    def test_some(self):
        told = [first(is_state(2, 1)), bad([2, 1])]
        self.assertEqual(ask_last(*told, keep([2], [1], [-1], [-2])), [2, 1, 3, 1])
        self.assertEqual(ask_last(*told, keep([2], [1], [-1], [1, 2])), [2, 1, 3, 0])

    def test_in_all_first_states(self):
        told = [start(3, 0), first([7, 2, 0, 2, 1])]
        self.assertEqual(ask_last(*told, keep([1], [2], [1, 2], [-1, -2], [-3], [3])), [2, 2, 3, 1])

    def test_next_wherever_all_hold(self):
        # The counter leaves each half; nothing is shut out.
        told = [start(2, 0), *counter(2), first(is_state(2, 0))]
        self.assertEqual(ask_last(*told, keep([-1], [-2], [-1, -2])), [0, 1])

    def test_only_because_another_does(self):
        # Bit 1 is next as bit 0 is, and bit 0 stays 0.
        told = [next_bit(1, [2, 0]), first(is_state(2, 0)), bad([2, 1])]
        self.assertEqual(ask_after(told, keep([-2]), keep([-1]), keep([-1], [-2]), keep([-2], [-1])),
                         [[0, 0], [1, 0, 0], [2, 0, 1, 1], [2, 0, 1, 1]])

    def test_only_two_by_one_another(self):
        # Two bits that swap: each is 0 if the other was.
        told = [*ring(2), first(is_state(2, 0)), bad(is_state(2, 3))]
        self.assertEqual(ask_after(told, keep([-1], [-2]), keep([-1]), keep([-2])), [[2, 0, 1, 1], [0, 0], [0, 0]])

    def test_a_clause_that_is_always_so(self):
        for told in ([], [start(6, 2), *counter(6), first([1]), bad(is_state(6, 1))]):
            self.assertEqual(ask_last(*told, keep([1, -1], [2, -1, 1]))[:3], [2, 0, 1])

    def test_whatever_the_inputs(self):
        told = [start(2, 2), next_bit(1, [5, 3, 0, 3, 1]), first(is_state(2, 0)), bad([2, 1])]
        self.assertEqual(ask_last(*told, keep([-2], [-1])), [1, 1, 0])
        told = [start(2, 2), next_bit(1, [5, 3, 0, 5, 3, 1, 2, 0]), first(is_state(2, 0)), bad([2, 1])]
        self.assertEqual(ask_last(*told, keep([-2], [-1])), [2, 0, 1, 1])

    def test_six_bits(self):
        pairs = [[-low, -high] for low in range(1, 7) for high in range(low + 1, 7)]
        told = [start(6, 2), *ring(6), first(is_state(6, 1)), bad(is_state(6, 3))]
        self.assertEqual(ask_last(*told, keep(*pairs)), [15] + list(range(15)) + [1])
        # Without the pair of the bits 0 and 5 the others go one after another.
        pairs.remove([-1, -6])
        self.assertEqual(ask_last(*told, keep(*pairs))[0], 9)


class Goes(unittest.TestCase):
    def test_only_because_another_went(self):
        told = BY_INPUT + [first(is_state(3, 0)), bad([2, 2])]
        self.assertEqual(ask_last(*told, keep([-1], [-2], [-3])), [0, 0])
        self.assertEqual(ask_last(*told, keep([-3], [-2], [-1], [1, -1])), [1, 3, 0])
        self.assertEqual(ask_last(*told, next_bit(0, [2, 0]), keep([-1], [-2], [-3])), [3, 0, 1, 2, 1])

    def test_only_because_another_is_not_so_at_first(self):
        told = [next_bit(1, [2, 0]), first(is_state(2, 1)), bad([2, 1])]
        self.assertEqual(ask_last(*told, keep([-1], [-2])), [0, 0])

    def test_one_after_another_through_six_bits(self):
        told = [start(6, 1), next_bit(0, [3, 0])] + [next_bit(bit, [2, bit - 1]) for bit in range(1, 6)]
        told += [first(is_state(6, 0)), bad([2, 5])]
        zeros = [[-bit] for bit in range(1, 7)]
        self.assertEqual(ask_after(told, keep(*zeros), keep(*zeros[::-1])), [[0, 0], [0, 0]])
        self.assertEqual(ask_last(*told, next_bit(0, [0]), keep(*zeros)), [6, 0, 1, 2, 3, 4, 5, 1])


class SameTwice(unittest.TestCase):
    def test_the_same_clause(self):
        told = [next_bit(0, [3, 0]), first(is_state(2, 0)), bad([2, 1])]
        self.assertEqual(ask_after(told, keep([-2], [-2]), keep([-1], [-1]), keep([-1], [-2], [-1], [-2])),
                         [[2, 0, 1, 1], [0, 0], [2, 1, 3, 1]])

    def test_the_same_literal(self):
        told = [next_bit(0, [3, 0]), first(is_state(2, 0))]
        self.assertEqual(ask_after(told, keep([-2, -2]), keep([-1, -1, -1]), keep([-1, -2, -1])),
                         [[1, 0, 1], [0, 1], [0, 1]])


class BadStates(unittest.TestCase):
    def test_those_where_all_that_stay_hold(self):
        told = [first(is_state(2, 0)), bad(is_state(2, 3))]
        self.assertEqual(ask_after(told, keep([-1]), keep([-2]), keep([-1, -2]), keep([-1, 2])),
                         [[1, 0, 1], [1, 0, 1], [1, 0, 1], [1, 0, 0]])

    def test_what_goes_shuts_out_nothing(self):
        told = [next_bit(0, [3, 0]), first(is_state(2, 0)), bad(is_state(2, 1))]
        self.assertEqual(ask_last(*told, keep([-1], [-2])), [1, 1, 0])

    def test_bad_states_do_not_make_a_clause_go(self):
        told = [first(is_state(2, 3)), bad(is_state(2, 3))]
        self.assertEqual(ask_last(*told, keep([1], [2])), [2, 0, 1, 0])

    def test_a_first_state_and_all_are_bad(self):
        self.assertEqual(ask_last(first([1]), bad([1]), keep([1, -1])), [1, 0, 0])

    def test_no_state_is_left(self):
        self.assertEqual(ask_last(bad([1]), keep([1], [-1])), [2, 0, 1, 1])


class Refused(unittest.TestCase):
    def test_more_than_twenty_clauses(self):
        told = [first(is_state(2, 1)), bad(is_state(2, 0))]
        self.assertEqual(ask_last(*told, keep(*[[1]] * 20)), [20] + list(range(20)) + [1])
        for count in (21, 22, 150):
            self.assertEqual(ask_last(*told, keep(*[[1]] * count)), [-1])
        # Clauses that don't stay count too.
        self.assertEqual(ask_last(*told, keep(*[[-1]] * 20)), [0, 0])
        self.assertEqual(ask_last(*told, keep(*[[-1]] * 21)), [-1])

    def test_a_clause_without_literals(self):
        self.assertEqual(ask(keep([]), keep([], [1]), keep([1], []), keep([1], [], [2])), [[-1]] * 4)
        self.assertEqual(ask(keep(*[[]] * 20), keep(*[[]] * 300)), [[-1]] * 2)

    def test_a_literal_of_no_bit(self):
        for n in range(1, 7):
            for literal in (0, n + 1, -n - 1, 7, -7, 64, GREATEST_LITERAL, LEAST_LITERAL):
                told = ask_after([start(n, 2)], keep([literal]), keep([1], [-1, literal]), keep([literal, 1], [1]))
                self.assertEqual(told, [[-1]] * 3, (n, literal))

    def test_the_last_bits_literals(self):
        for n in range(1, 7):
            told = [start(n, 0), first([2, n - 1]), bad([4, 2, n - 1])]
            self.assertEqual(ask_after(told, keep([n]), keep([-n]), keep([n, -n])), [[1, 0, 1], [0, 0], [1, 0, 0]])

    def test_many_literals(self):
        told = [first(is_state(2, 2)), bad(is_state(2, 1))]
        self.assertEqual(ask_last(*told, keep([2] * 299)), [1, 0, 1])
        self.assertEqual(ask_last(*told, keep([2] * 298 + [3])), [-1])
        self.assertEqual(ask_last(*told, keep(*[[2] * 14] * 20)), [20] + list(range(20)) + [1])


if __name__ == "__main__":
    unittest.main()
