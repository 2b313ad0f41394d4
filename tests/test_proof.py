"""proof and least: what clauses of few literals leave."""

import unittest

from tests.helper import (LEAST, WAY, ask, ask_after, ask_last, bad, counter, first, is_state,
                          next_bit, proof, ring, start)

HUGE = 4294967295

# If no state is left: no bad one, none, one clause, with no literal.
NONE_LEFT = [1, 0, 1, 0]


def even(n):
    """The condition that just 0, 2, 4 or 6 of the bits are 1."""
    odd = [2, 0]
    for bit in range(1, n):
        odd = [7, 2, bit] + odd
    return [4] + odd


def in_one_row(clauses):
    return [number for clause in clauses for number in [len(clause)] + clause]


def at_most_one(n):
    """The clauses by which no two bits are 1, in order."""
    return [[-low, -high] for low in range(n, 0, -1) for high in range(n, low, -1)]


class Width(unittest.TestCase):
    def test_above_the_bits_is_refused(self):
        for n in range(1, 7):
            told = ask(start(n, 1), first([1]), proof(n), proof(n + 1), proof(64), proof(HUGE))
            self.assertEqual(told[2:], [[1, 2 ** n, 0], [-1], [-1], [-1]], n)

    def test_at_the_beginning(self):
        told = ask(proof(0), proof(1), proof(2), proof(3), proof(HUGE))
        self.assertEqual(told, [NONE_LEFT] * 3 + [[-1]] * 2)

    def test_it_goes_by_the_bits_told_last(self):
        self.assertEqual(ask(start(6, 0), proof(6), start(1, 2), proof(2), proof(1))[1::2], [NONE_LEFT, [-1]])
        self.assertEqual(ask(start(6, 0), start(7, 0), proof(6), proof(7))[2:], [NONE_LEFT, [-1]])


class Left(unittest.TestCase):
    def test_no_state_if_none_is_first(self):
        for n in range(1, 7):
            told = ask_after([start(n, 2), *counter(n), bad([1])], *[proof(w) for w in range(n + 1)])
            self.assertEqual(told, [NONE_LEFT] * (n + 1))

    def test_all_states_if_all_are_first(self):
        for n in range(1, 7):
            told = ask_after([start(n, 0), first([1])], *[proof(w) for w in range(n + 1)])
            self.assertEqual(told, [[1, 2 ** n, 0]] * (n + 1))
            told = ask_after([start(n, 2), first([1]), bad([2, n - 1])], *[proof(w) for w in range(n + 1)])
            self.assertEqual(told, [[0, 2 ** n, 0]] * (n + 1))

    def test_all_states_if_runs_come_to_all(self):
        told = ask_after([start(6, 0), *counter(6), first(is_state(6, 0))], *[proof(w) for w in range(7)])
        self.assertEqual(told, [[1, 64, 0]] * 7)

    def test_by_no_literal_all_states_or_none(self):
        for n in range(1, 7):
            calls = [start(n, 1), first(is_state(n, 0)), proof(0), bad(is_state(n, 1)), proof(0)]
            self.assertEqual(ask(*calls)[2::2], [[1, 2 ** n, 0], [0, 2 ** n, 0]])

    def test_one_state_that_stays(self):
        told = ask_after([start(3, 1), first(is_state(3, 1)), bad(is_state(3, 0))], *[proof(w) for w in range(4)])
        one = [1, 1, 3, 1, -3, 1, -2, 1, 1]
        self.assertEqual(told, [[0, 8, 0], one, one, one])

    def test_both_alike(self):
        told = ask_after([first([4, 7, 2, 0, 2, 1]), bad(is_state(2, 1))], proof(0), proof(1), proof(2))
        self.assertEqual(told, [[0, 4, 0], [0, 4, 0], [1, 2, 2, 2, -1, 2, 2, 1, -2]])

    def test_the_bad_states_are_not_looked_at_for_what_is_left(self):
        calls = [first([4, 7, 2, 0, 2, 1]), bad(is_state(2, 3)), proof(2)]
        self.assertEqual(ask_last(*calls), [0, 2, 2, 2, -1, 2, 2, 1, -2])

    def test_next_states_are_in_it_too(self):
        # 0 goes to 1, and 1 stays: bit 1 is never 1.
        told = ask_after([next_bit(0, [1]), first(is_state(2, 0)), bad([2, 1])], proof(0), proof(1), proof(2))
        self.assertEqual(told, [[0, 4, 0], [1, 2, 1, 1, -2], [1, 2, 1, 1, -2]])

    def test_what_is_next_of_states_that_no_run_comes_to(self):
        # 0 and 3 are first and stay. One-literal clauses leave 1 and 2 as
        # well, and of these 1 goes to 5: so bit 2 is 1 too.
        went = [5, 2, 0, 4, 2, 1]
        told = ask_after([start(3, 0), next_bit(2, [6, 2, 2] + went), bad([2, 2]),
                          first([5, 4, 2, 2, 4, 7, 2, 0, 2, 1])], proof(1), proof(2), proof(3), LEAST)
        held = [1, 2, 3, 1, -3, 2, -1, 2, 2, 1, -2]
        self.assertEqual(told, [[0, 8, 0], held, held, [1, 2]])

    def test_one_input(self):
        # Bit 0 is 1 next by the input alone, bit 1 without it alone.
        told = ask_after([next_bit(0, [3, 0]), next_bit(1, [5, 2, 0, 4, 3, 0]), first(is_state(2, 0)),
                          bad(is_state(2, 3))], proof(0), proof(1), proof(2), LEAST)
        self.assertEqual(told, [[0, 4, 0], [0, 4, 0], [1, 3, 1, 2, -1, -2], [1, 2]])

    def test_two_inputs(self):
        # Bit 1 is 1 next by input 1 alone; by both together bit 2 as well.
        told = ask_after([start(3, 2), next_bit(0, [0]), next_bit(1, [3, 1]), next_bit(2, [5, 3, 0, 3, 1]),
                          first(is_state(3, 0))], proof(1), proof(2), proof(3))
        self.assertEqual(told, [[1, 4, 1, 1, -1]] + [[1, 3, 2, 1, -1, 2, 2, -3]] * 2)


class Clauses(unittest.TestCase):
    def test_a_ring_with_one_bit_that_is_1(self):
        told = ask_after([start(3, 0), *ring(3), first(is_state(3, 1)), bad(is_state(3, 0))],
                         *[proof(w) for w in range(4)])
        pairs = [2, -2, -3, 2, -1, -3, 2, -1, -2]
        self.assertEqual(told, [[0, 8, 0], [0, 8, 0], [0, 4, 3] + pairs, [1, 3, 4] + pairs + [3, 1, 2, 3]])

    def test_a_ring_of_each_size(self):
        for n in range(2, 7):
            told = ask_after([start(n, 2), *ring(n), first(is_state(n, 2)), bad([5, 2, 0, 2, 1])],
                             *[proof(w) for w in range(n + 1)])
            pairs = at_most_one(n)
            wide = [1, n, len(pairs) + 1] + in_one_row(pairs + [list(range(1, n + 1))])
            if n == 2:
                wide = [1, 2, 2, 2, -1, -2, 2, 1, 2]
            few = [1, n + 1, len(pairs)] + in_one_row(pairs)
            self.assertEqual(told, [[0, 2 ** n, 0]] * 2 + [few] * (n - 2) + [wide])

    def test_an_even_number_of_bits(self):
        # Of three bits: each clause has all, and the lesser literal first.
        told = ask_after([start(3, 1), first(even(3))], proof(1), proof(2), proof(3))
        self.assertEqual(told, [[1, 8, 0], [1, 8, 0],
                                [1, 4, 4, 3, -1, -2, -3, 3, -1, 2, 3, 3, 1, -2, 3, 3, 1, 2, -3]])

    def test_those_with_fewer_literals_first(self):
        told = ask_last(start(3, 0), first([5, 2, 2, 4, 7, 2, 0, 2, 1]), proof(2))
        self.assertEqual(told, [1, 2, 3, 1, 3, 2, -1, 2, 2, 1, -2])
        # 0, 3 and 4 of four bits.
        three = [5, 4, 2, 3, 6, 4, 6, 2, 0, 2, 1, 5, 2, 0, 5, 2, 1, 4, 2, 2]
        told = ask_last(start(4, 0), first(three), proof(4))
        self.assertEqual(told, [1, 3, 5, 1, -4, 2, -2, -3, 2, -1, -3, 2, -1, 2, 2, 1, -2])

    def test_a_literal_and_its_contrary_beside_one_another(self):
        # -3, -2, -1, 1, 2, 3 is their order; a clause's own go by their bits.
        for state, literals in ((0, [-3, -2, -1]), (2, [-3, -1, 2]), (5, [-2, 1, 3]), (7, [1, 2, 3])):
            told = ask_last(start(3, 0), first(is_state(3, state)), proof(2))
            self.assertEqual(told, [1, 1, 3] + in_one_row([[literal] for literal in literals]))

    def test_no_more_literals_than_asked_for(self):
        # All but 7: it takes a clause of three literals.
        told = ask_after([start(3, 0), first([4, 5, 2, 0, 5, 2, 1, 2, 2])], proof(2), proof(3))
        self.assertEqual(told, [[1, 8, 0], [1, 7, 1, 3, -1, -2, -3]])

    def test_all_but_one_state_of_six_bits(self):
        told = ask_after([start(6, 1), first([4] + is_state(6, 37))], proof(5), proof(6))
        self.assertEqual(told, [[1, 64, 0], [1, 63, 1, 6, -1, 2, -3, 4, 5, -6]])

    def test_one_state_of_six_bits(self):
        told = ask_after([start(6, 1), first(is_state(6, 37))], proof(1), proof(6))
        self.assertEqual(told, [[1, 1, 6, 1, -5, 1, -4, 1, -2, 1, 1, 1, 3, 1, 6]] * 2)


class Least(unittest.TestCase):
    def test_at_the_beginning(self):
        self.assertEqual(ask(LEAST), [[1, 0]])

    def test_no_state_bad(self):
        for n in range(1, 7):
            self.assertEqual(ask_last(start(n, 1), *counter(n), first(is_state(n, 0)), LEAST), [1, 0])

    def test_no_state_first(self):
        for n in range(1, 7):
            self.assertEqual(ask_last(start(n, 1), *counter(n), bad([1]), LEAST), [1, 0])

    def test_one(self):
        for n in range(1, 7):
            self.assertEqual(ask_last(start(n, 2), first(is_state(n, 0)), bad([2, n - 1]), LEAST), [1, 1])

    def test_some_between(self):
        for n in range(3, 7):
            told = [start(n, 1), *ring(n), first(is_state(n, 1))]
            self.assertEqual(ask_last(*told, bad([5, 2, 0, 2, 2]), LEAST), [1, 2])
        # All but 7 of the lower three bits, whatever the others are.
        all_three = [5, 2, 0, 5, 2, 1, 2, 2]
        for n in range(4, 7):
            self.assertEqual(ask_last(start(n, 0), first([4] + all_three), bad(all_three), LEAST), [1, 3])

    def test_as_many_as_there_are_bits(self):
        for n in range(1, 7):
            self.assertEqual(ask_last(start(n, 0), first(even(n)), bad(is_state(n, 1)), LEAST), [1, n])
            told = [start(n, 1), *ring(n), first(is_state(n, 1)), bad(is_state(n, 0))]
            self.assertEqual(ask_last(*told, LEAST), [1, n])

    def test_none_if_it_is_not_safe(self):
        for n in range(1, 7):
            told = [start(n, 0), *counter(n), first(is_state(n, 0)), bad(is_state(n, 2 ** n - 1))]
            self.assertEqual(ask_after(told, LEAST, proof(n))[0], [0])
        self.assertEqual(ask_last(first([1]), bad([1]), LEAST), [0])
        self.assertEqual(ask_last(first(is_state(2, 2)), bad(is_state(2, 2)), LEAST), [0])

    def test_inputs_that_break_it(self):
        told = [start(2, 2), next_bit(1, [5, 3, 0, 3, 1]), first(is_state(2, 0)), bad(is_state(2, 2))]
        self.assertEqual(ask_after(told, LEAST, WAY), [[0], [1, 1, 0, 3, 2]])


if __name__ == "__main__":
    unittest.main()
