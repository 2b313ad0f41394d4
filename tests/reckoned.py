"""A plain second reckoning of all answers.

It goes by the words alone: conditions part by part, runs by all that is come
to in just so many steps, sets of states by all their members.
"""

from functools import lru_cache
from itertools import combinations, product


def value(condition, state, inputs):
    """Whether it's so, and what stands behind it."""
    kind, rest = condition[0], condition[1:]
    if kind in (0, 1):
        return bool(kind), rest
    if kind in (2, 3):
        return bool((state, inputs)[kind - 2] // 2 ** rest[0] % 2), rest[1:]
    one, rest = value(rest, state, inputs)
    if kind == 4:
        return not one, rest
    two, rest = value(rest, state, inputs)
    if kind == 8:
        three, rest = value(rest, state, inputs)
        return (one and two) or (not one and three), rest
    return {5: one + two == 2, 6: one + two > 0, 7: one + two == 1}[kind], rest


def holds(clause, state):
    return any(state // 2 ** (abs(literal) - 1) % 2 == (literal > 0) for literal in clause)


@lru_cache(None)
def clauses_up_to(n, w):
    """Of each bit its literal, its contrary or none: all that there are."""
    told = [[x for x in row if x] for row in product(*[(0, b, -b) for b in range(1, n + 1)])]
    return [clause for clause in told if len(clause) <= w]


@lru_cache(None)
def told_by_clauses(n, w):
    """Every set of states that some clauses of w literals at most tell."""
    wheres = [frozenset(s for s in range(2 ** n) if holds(c, s)) for c in clauses_up_to(n, w)]
    found = []
    for picked in product((False, True), repeat=2 ** n):
        states = {s for s in range(2 ** n) if picked[s]}
        if set(range(2 ** n)).intersection(*[where for where in wheres if states <= where]) == states:
            found.append(states)
    return found


class Reckoned:
    def __init__(self, n, m, nexts, firsts, bads):
        self.n = n
        self.states = range(2 ** n)
        self.inputs = range(2 ** m)
        self.nexts = nexts
        self.firsts = {s for s in self.states if value(firsts, s, 0)[0]}
        self.bads = {s for s in self.states if value(bads, s, 0)[0]}
        self.table = {(s, x): self.step(s, x) for s in self.states for x in self.inputs}

    def step(self, state, inputs):
        return sum(2 ** i for i, c in enumerate(self.nexts) if value(c, state, inputs)[0])

    def reach(self):
        now, seen, told = set(self.firsts), set(self.firsts), []
        for steps in range(len(self.states) + 1):
            told.append(len(seen))
            now = {self.table[s, x] for s in now for x in self.inputs}
            seen = seen | now
        return self.growing(told)

    def doomed_in(self, steps):
        """From which states a bad one is come to in just so many steps."""
        doomed = set(self.bads)
        for step in range(steps):
            doomed = {s for s in self.states if any(self.table[s, x] in doomed for x in self.inputs)}
        return doomed

    def doom(self):
        seen, told = set(), []
        for steps in range(len(self.states) + 1):
            seen = seen | self.doomed_in(steps)
            told.append(len(seen))
        return self.growing(told)

    def growing(self, told):
        kept = [told[0]] + [b for a, b in zip(told, told[1:]) if b > a]
        return [len(kept)] + kept

    def way(self):
        for steps in range(len(self.states)):
            starts = self.firsts & self.doomed_in(steps)
            if starts:
                return [1, steps] + self.path(min(starts), steps)
        return [0]

    def path(self, state, steps):
        told = [state]
        for left in range(steps - 1, -1, -1):
            doomed = self.doomed_in(left)
            inputs = min(x for x in self.inputs if self.table[state, x] in doomed)
            state = self.table[state, inputs]
            told += [inputs, state]
        return told

    def behind(self, states):
        return {self.table[s, x] for s in states for x in self.inputs}

    def left(self, w):
        if self.n > 3:
            return self.left_by_glances(w)
        sets = [states for states in told_by_clauses(self.n, w)
                if self.firsts <= states and self.behind(states) <= states]
        least = min(sets, key=len)
        assert all(least <= states for states in sets)
        return least

    def left_by_glances(self, w):
        """A state is left if any w of its bits are so in some state that is."""
        glances = [sum(2 ** bit for bit in bits) for bits in combinations(range(self.n), w)]
        now, then = None, self.firsts
        while now != then:
            now = then
            seen = [{s & glance for s in now | self.behind(now)} for glance in glances]
            then = {s for s in self.states if all(s & g in there for g, there in zip(glances, seen))}
        return now

    def proof(self, w):
        left = self.left(w)
        held = [c for c in clauses_up_to(self.n, w) if all(holds(c, s) for s in left)]
        told = [c for c in held if not any(set(part) < set(c) for part in held)]
        answer = [int(not left & self.bads), len(left), len(told)]
        for clause in sorted(told, key=lambda c: (len(c), c)):
            answer += [len(clause)] + clause
        return answer

    def least(self):
        for w in range(self.n + 1):
            if not self.left(w) & self.bads:
                return [1, w]
        return [0]

    def steps(self):
        if self.way() != [0]:
            return [0]
        if not self.bads:
            return [1, 0]
        # From where something bad is come to through none that's bad.
        rows = set()
        for state in self.states:
            rows |= {s for s in self.states if s not in self.bads and self.behind([s]) & (rows | self.bads)}
        k = 1
        while rows:
            ends = {s for s in rows if not self.behind([s]) & rows}
            if not ends:
                return [0]
            rows, k = rows - ends, k + 1
        return [1, k]

    def claim(self, condition):
        so = {s for s in self.states if value(condition, s, 0)[0]}
        gone = [(s, x) for s, x in self.table if s in so and self.table[s, x] not in so]
        if self.firsts - so:
            return [0, 1, min(self.firsts - so)]
        if gone:
            return [0, 2, *min(gone)]
        return [0, 3, min(self.bads & so)] if self.bads & so else [1]

    def keep(self, clauses):
        wheres = [{s for s in self.states if holds(clause, s)} for clause in clauses]
        for count in range(len(clauses), -1, -1):
            for places in combinations(range(len(clauses)), count):
                left = set(self.states).intersection(*[wheres[place] for place in places])
                if self.firsts | self.behind(left) <= left:
                    return [count, *places, int(not left & self.bads)]

    def far(self, state):
        now = {state}
        for count in range(len(self.states)):
            if now & self.bads:
                return [1, count]
            now = self.behind(now)
        return [0]
