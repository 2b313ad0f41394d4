"""Many machines, each asked of the program and of a plain second reckoning.

The second one goes by the words alone: conditions part by part, runs by all
that is come to in just so many steps.
"""

import random
import unittest

from tests.helper import DOOM, REACH, WAY, ask, bad, first, next_bit, start


def made_up(dice, n, m, room):
    """A condition of at most so many numbers."""
    kinds = [0, 1] + ([2] * 6 + [3] * (3 if m else 0) if room >= 2 else [])
    kinds += [4] * 2 if room >= 3 else []
    kinds += [5, 6, 7] * 3 if room >= 5 else []
    kinds += [8] * 3 if room >= 7 else []
    kind = dice.choice(kinds)
    if kind == 2:
        return [2, dice.randrange(n)]
    if kind == 3:
        return [3, dice.randrange(m)]
    parts = {4: 1, 5: 2, 6: 2, 7: 2, 8: 3}.get(kind, 0)
    told = [kind]
    for part in range(parts):
        told += made_up(dice, n, m, (room - 1) // parts)
    return told


def shifted(dice, n, m, room):
    """A bit, turned or not by another or an input: such runs go on for long."""
    told = [2, dice.randrange(n)]
    for turn in range(dice.randrange(3)):
        by = [3, dice.randrange(m)] if m and dice.randrange(2) else [2, dice.randrange(n)]
        told = [dice.choice((5, 6, 7, 7, 7))] + told + by
    return [4] + told if dice.randrange(3) == 0 else told


def cube(dice, n, told_bits):
    """The condition that so many of the bits are as told."""
    condition = [1]
    for bit in dice.sample(range(n), told_bits):
        condition = [5] + dice.choice(([2, bit], [4, 2, bit])) + condition
    return condition


def value(condition, state, inputs):
    """Whether it's so, and what stands behind it."""
    kind, rest = condition[0], condition[1:]
    if kind in (0, 1):
        return bool(kind), rest
    if kind in (2, 3):
        return bool((state, inputs)[kind - 2] // 2 ** rest[0] % 2), rest[1:]
    one, rest = value(rest, state, inputs)
    if kind == 4:
        return not one, rest
    two, rest = value(rest, state, inputs)
    if kind == 8:
        three, rest = value(rest, state, inputs)
        return (one and two) or (not one and three), rest
    return {5: one + two == 2, 6: one + two > 0, 7: one + two == 1}[kind], rest


class Reckoned:
    def __init__(self, n, m, nexts, firsts, bads):
        self.states = range(2 ** n)
        self.inputs = range(2 ** m)
        self.nexts = nexts
        self.firsts = {s for s in self.states if value(firsts, s, 0)[0]}
        self.bads = {s for s in self.states if value(bads, s, 0)[0]}
        self.table = {(s, x): self.step(s, x) for s in self.states for x in self.inputs}

    def step(self, state, inputs):
        return sum(2 ** i for i, c in enumerate(self.nexts) if value(c, state, inputs)[0])

    def reach(self):
        now, seen, told = set(self.firsts), set(self.firsts), []
        for steps in range(len(self.states) + 1):
            told.append(len(seen))
            now = {self.table[s, x] for s in now for x in self.inputs}
            seen = seen | now
        return self.growing(told)

    def doomed_in(self, steps):
        """From which states a bad one is come to in just so many steps."""
        doomed = set(self.bads)
        for step in range(steps):
            doomed = {s for s in self.states if any(self.table[s, x] in doomed for x in self.inputs)}
        return doomed

    def doom(self):
        seen, told = set(), []
        for steps in range(len(self.states) + 1):
            seen = seen | self.doomed_in(steps)
            told.append(len(seen))
        return self.growing(told)

    def growing(self, told):
        kept = [told[0]] + [b for a, b in zip(told, told[1:]) if b > a]
        return [len(kept)] + kept

    def way(self):
        for steps in range(len(self.states)):
            starts = self.firsts & self.doomed_in(steps)
            if starts:
                return [1, steps] + self.path(min(starts), steps)
        return [0]

    def path(self, state, steps):
        told = [state]
        for left in range(steps - 1, -1, -1):
            doomed = self.doomed_in(left)
            inputs = min(x for x in self.inputs if self.table[state, x] in doomed)
            state = self.table[state, inputs]
            told += [inputs, state]
        return told


class ByTrial(unittest.TestCase):
    def made_up_machine(self, dice, n, m):
        make_next = dice.choice((shifted, shifted, made_up))
        nexts = [make_next(dice, n, m, dice.choice((3, 12, 40))) for i in range(n)]
        return nexts, self.some_states(dice, n), self.some_states(dice, n)

    def some_states(self, dice, n):
        if dice.randrange(4) == 0:
            return made_up(dice, n, 0, dice.choice((2, 5, 20, 40)))
        return cube(dice, n, dice.randrange(max(1, n - 2), n + 1))

    def asked(self, n, m, nexts, firsts, bads):
        calls = [start(n, m)] + [next_bit(i, c) for i, c in enumerate(nexts)]
        return ask(*calls, first(firsts), bad(bads), REACH, WAY, DOOM)[n + 1:]

    def trial(self, n, m, seeds):
        for seed in range(seeds):
            machine = self.made_up_machine(random.Random(f"{n} {m} {seed}"), n, m)
            with self.subTest(n=n, m=m, seed=seed):
                reckoned = Reckoned(n, m, *machine)
                self.assertEqual(self.asked(n, m, *machine), [
                    [len(reckoned.firsts)], [len(reckoned.bads)],
                    reckoned.reach(), reckoned.way(), reckoned.doom()])

    def test_few_bits(self):
        for n in (1, 2, 3):
            for m in (0, 1, 2):
                self.trial(n, m, 150)

    def test_more_bits(self):
        for m in (0, 1, 2):
            self.trial(4, m, 60)
            self.trial(5, m, 12)

    def test_six_bits(self):
        for m in (0, 1, 2):
            self.trial(6, m, 3)


if __name__ == "__main__":
    unittest.main()
