"""A machine: which state comes behind which, which are first, which are bad."""

from safeforever.condition import is_so


class Automaton:
    def __init__(self):
        self.begin(2, 1)

    def begin(self, bits, inputs):
        self.bits = bits
        self.inputs = inputs
        # after[state][inputs] is the next state; each bit stays as it is.
        self.after = [[state] * (1 << inputs) for state in range(1 << bits)]
        self.first = []
        self.bad = []

    def set_bit(self, bit, terms):
        worth = 1 << bit
        changed = []
        for state, row in enumerate(self.after):
            behind = []
            for inputs, old in enumerate(row):
                # The other bits go on as they did.
                others = old & ~worth
                behind.append(others + worth if is_so(terms, state, inputs) else others)
            changed.append(behind)
        self.after = changed

    # Such conditions are of the state alone, so any inputs will do.
    def states_where(self, terms):
        return [state for state in range(len(self.after)) if is_so(terms, state, 0)]
