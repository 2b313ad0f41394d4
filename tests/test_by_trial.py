"""Many machines made up, each asked of the program and reckoned once more."""

import random
import unittest

from tests.helper import (DOOM, LEAST, REACH, STEPS, WAY, ask_after, bad, claim, far,
                          first, keep, next_bit, proof, start, step)
from tests.made_up import clauses, machine, some_states
from tests.reckoned import Reckoned


class ByTrial(unittest.TestCase):
    def made_up(self, n, m, seed):
        self.dice = random.Random(f"{n} {m} {seed}")
        nexts, firsts, bads = machine(self.dice, n, m)
        self.reckoned = Reckoned(n, m, nexts, firsts, bads)
        self.told = [start(n, m)] + [next_bit(i, c) for i, c in enumerate(nexts)] + [first(firsts), bad(bads)]

    def check(self, calls, wanted):
        self.assertEqual(ask_after(self.told, *calls), wanted)

    def check_walks(self):
        calls = [REACH, WAY, DOOM]
        self.check(calls, [self.reckoned.reach(), self.reckoned.way(), self.reckoned.doom()])
        counts = [[len(self.reckoned.firsts)], [len(self.reckoned.bads)]]
        self.assertEqual(ask_after(self.told[:-2], *self.told[-2:]), counts)

    def check_proofs(self, n):
        widths = range(n + 1)
        self.check([proof(w) for w in widths] + [LEAST, STEPS],
                   [self.reckoned.proof(w) for w in widths] + [self.reckoned.least(), self.reckoned.steps()])

    def check_claims(self, n):
        told = [some_states(self.dice, n) for count in range(6)]
        # What may well be so for ever: all but few states, and all but the bad ones.
        told += [[4] + condition for condition in told if len(condition) < 40]
        told += [[4] + self.told[-1][2:]] if self.told[-1][1] < 40 else []
        self.check([claim(c) for c in told], [self.reckoned.claim(c) for c in told])

    def check_clauses(self, n):
        told = [clauses(self.dice, n) for count in range(4)]
        self.check([keep(*row) for row in told], [self.reckoned.keep(row) for row in told])

    def check_each_state(self, n, m):
        for state in range(2 ** n):
            inputs = range(2 ** m)
            self.check([far(state)] + [step(state, x) for x in inputs],
                       [self.reckoned.far(state)] + [[self.reckoned.step(state, x)] for x in inputs])

    def trial(self, n, m, seeds):
        for seed in range(seeds):
            with self.subTest(n=n, m=m, seed=seed):
                self.made_up(n, m, seed)
                self.check_walks()
                self.check_proofs(n)
                self.check_claims(n)
                self.check_clauses(n)
                if seed % 10 == 0:
                    self.check_each_state(n, m)

    def test_few_bits(self):
        for m in (0, 1, 2):
            self.trial(1, m, 60)
            self.trial(2, m, 150)
            self.trial(3, m, 150)

    def test_more_bits(self):
        for m in (0, 1, 2):
            self.trial(4, m, 40)
            self.trial(5, m, 12)

    def test_six_bits(self):
        for m in (0, 1, 2):
            self.trial(6, m, 3)


if __name__ == "__main__":
    unittest.main()
