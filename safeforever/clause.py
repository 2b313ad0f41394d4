"""Clauses: rows of literals, b + 1 if bit b is 1 and -b - 1 if it's 0."""

from safeforever.state_sets import set_of

MOST_CLAUSES = 20


# The clauses, each as a list of literals; or None, if they are refused.
def read_clauses(row, bits):
    clauses = []
    place = 0
    while place < len(row):
        clause = row[place + 1:place + 1 + row[place]]
        if len(clause) == 0 or not all([is_of_a_bit(literal, bits) for literal in clause]):
            return None
        clauses.append(clause)
        place += 1 + len(clause)
    if len(clauses) > MOST_CLAUSES:
        return None
    return clauses


def is_of_a_bit(literal, bits):
    return literal != 0 and abs(literal) <= bits


# The set of states in which it holds.
def where_clause(clause, bits):
    states = 0
    for literal in clause:
        states |= where_literal(literal, bits)
    return states


def where_literal(literal, bits):
    bit = abs(literal) - 1
    wanted = 1 if literal > 0 else 0
    return set_of([state for state in range(1 << bits) if (state >> bit) & 1 == wanted])


# All clauses of so many literals at most, each literal of another bit and all
# by their bits: of each a tuple of its literals, and where it holds. Those with
# fewer literals come first, then those with the lesser literals.
def clauses_up_to(width, bits):
    literals = list(range(-bits, 0)) + list(range(1, bits + 1))
    singles = [(literal, where_literal(literal, bits)) for literal in literals]
    as_long = [((), 0)]
    found = list(as_long)
    for length in range(width):
        as_long = one_longer(as_long, singles)
        found.extend(as_long)
    return found


# In order, as the clauses and the literals given are.
def one_longer(clauses, singles):
    found = []
    for clause, where in clauses:
        last = abs(clause[-1]) if len(clause) > 0 else 0
        for literal, where_single in singles:
            if abs(literal) > last:
                found.append((clause + (literal,), where | where_single))
    return found
