"""Neither a refusal nor what is only asked changes the machine."""

import random
import unittest

from tests.helper import (DOOM, LEAST, REACH, STEPS, WAY, ask_after, bad, claim, counter, far, first,
                          is_state, keep, next_bit, one_of, proof, ring, start, step)

HUGE = 4294967295

# Each with two bits and one input: what is told, and what is then asked.
UNSAFE = [start(2, 1), next_bit(0, [3, 0]), first(is_state(2, 2)), bad(is_state(2, 3))]
SAFE = [start(2, 1), next_bit(1, [2, 0]), first(is_state(2, 0)), bad(is_state(2, 3))]
ASKED = [REACH, WAY, DOOM, proof(0), proof(1), proof(2), LEAST, STEPS, claim([4, 2, 1]), claim([4, 2, 0]),
         keep([-1], [-2], [2]), step(0, 1), step(1, 1), step(2, 1), step(3, 1), far(0), far(1), far(2), far(3)]

REFUSED = [start(0, 1), start(7, 1), start(2, 3), next_bit(2, [1]), next_bit(0, [3, 1]), next_bit(1, []),
           first([3, 0]), bad([2, 2]), proof(3), proof(HUGE), claim([]), claim([3, 0]), claim([2, 2]),
           claim([4] * 40 + [1]), keep([]), keep([0]), keep([3]), keep([1], [-3]), keep(*[[1]] * 21),
           step(4, 0), step(0, 2), step(HUGE, HUGE), far(4), far(HUGE)]


class LeftAsItWas(unittest.TestCase):
    def test_what_is_asked_here(self):
        self.assertEqual(ask_after(UNSAFE, *ASKED), [
            [2, 1, 2], [1, 1, 2, 1, 3], [2, 1, 2], [0, 4, 0], [0, 2, 1, 1, 2], [0, 2, 1, 1, 2], [0], [0],
            [0, 1, 2], [0, 2, 0, 1], [1, 2, 0], [1], [1], [3], [3], [0], [0], [1, 1], [1, 0]])
        self.assertEqual(ask_after(SAFE, *ASKED), [
            [1, 1], [0], [2, 1, 2], [0, 4, 0], [1, 1, 2, 1, -2, 1, -1], [1, 1, 2, 1, -2, 1, -1], [1, 1], [1, 2],
            [0, 2, 1, 0], [1], [2, 0, 1, 1], [0], [3], [0], [3], [0], [1, 1], [0], [1, 0]])

    def test_behind_each_refusal(self):
        for told in (UNSAFE, SAFE):
            wanted = ask_after(told, *ASKED)
            for wrong in REFUSED:
                with self.subTest(wrong):
                    answer = ask_after(told, wrong, *ASKED)
                    self.assertEqual(len(answer[0]), 1)
                    self.assertLess(answer[0][0], 0)
                    self.assertEqual(answer[1:], wanted)

    def test_behind_each_refusal_at_the_beginning(self):
        wanted = ask_after([], *ASKED)
        for wrong in REFUSED:
            with self.subTest(wrong):
                self.assertEqual(ask_after([wrong], *ASKED), wanted)

    def test_behind_each_call_that_only_asks(self):
        for told in ([], UNSAFE, SAFE):
            wanted = ask_after(told, *ASKED)
            for asked, answer in zip(ASKED, wanted):
                with self.subTest(asked):
                    self.assertEqual(ask_after(told, asked, asked, *ASKED), [answer, answer] + wanted)

    def test_in_any_order(self):
        told = [start(6, 2), *ring(6), next_bit(3, [8, 3, 1, 2, 2, 5, 2, 3, 3, 0]), first(is_state(6, 1)),
                bad(one_of([is_state(6, 3), is_state(6, 33)]))]
        asked = [REACH, WAY, DOOM, *[proof(w) for w in range(7)], LEAST, STEPS, claim([4, 5, 2, 0, 2, 1]),
                 keep([-1, -2], [-4, -5], [1, 2]), step(9, 3), far(9), far(5)]
        wanted = ask_after(told, *asked)
        for seed in range(20):
            places = random.Random(seed).sample(range(len(asked)), len(asked))
            answers = ask_after(told, *[asked[place] for place in places])
            self.assertEqual(answers, [wanted[place] for place in places])

    def test_what_is_told_anew_counts_from_then_on(self):
        told = [start(2, 0), *counter(2), first(is_state(2, 0)), bad(is_state(2, 3))]
        asked = [LEAST, STEPS, claim([4, 2, 1]), keep([-2]), step(1, 0), far(1)]
        self.assertEqual(ask_after(told, *asked), [[0], [0], [0, 2, 1, 0], [0, 0], [2], [1, 2]])
        self.assertEqual(ask_after(told, *asked, next_bit(1, [2, 1]), *asked)[7:],
                         [[1, 1], [1, 2], [1], [1, 0, 1], [0], [0]])
        self.assertEqual(ask_after(told, *asked, start(2, 0), *asked)[7:],
                         [[1, 0], [1, 0], [1], [1, 0, 1], [1], [0]])


if __name__ == "__main__":
    unittest.main()
