"""A condition of a state and inputs, told in numbers from the left."""

MOST_NUMBERS = 40

NEVER = 0
ALWAYS = 1
BIT = 2
INPUT = 3
NOT = 4
BOTH = 5
EITHER = 6
ONE_ALONE = 7

# Of each kind of condition, by its number: of how many conditions it is made.
PARTS = (0, 0, 0, 0, 1, 2, 2, 2, 3)


# The condition's terms, each a kind and an index (0 where it has none), in
# the order told; or None, if the row isn't one condition of what is there.
def read_condition(row, bits, inputs):
    if len(row) > MOST_NUMBERS:
        return None
    terms = read_terms(row, bits, inputs)
    if terms is None or not is_one_condition(terms):
        return None
    return terms


def read_terms(row, bits, inputs):
    terms = []
    place = 0
    while place < len(row):
        kind = row[place]
        if kind >= len(PARTS):
            return None
        index = 0
        if kind == BIT or kind == INPUT:
            place += 1
            there = bits if kind == BIT else inputs
            if place >= len(row) or row[place] >= there:
                return None
            index = row[place]
        terms.append((kind, index))
        place += 1
    return terms


def is_one_condition(terms):
    missing = 1
    for term in terms:
        # A whole condition stands ahead of this term: the rest is left over.
        if missing == 0:
            return False
        missing += PARTS[term[0]] - 1
    return missing == 0


def is_so(terms, state, inputs):
    worked_out = []
    # From the right, a term's parts are worked out ahead of it, and the first
    # of them is the last one laid down: no call within a call is needed.
    for term in reversed(terms):
        parts = []
        while len(parts) < PARTS[term[0]]:
            parts.append(worked_out.pop())
        worked_out.append(is_term_so(term, parts, state, inputs))
    return worked_out[0]


def is_term_so(term, parts, state, inputs):
    kind = term[0]
    if kind == NEVER:
        return False
    if kind == ALWAYS:
        return True
    if kind == BIT:
        return (state >> term[1]) & 1 == 1
    if kind == INPUT:
        return (inputs >> term[1]) & 1 == 1
    if kind == NOT:
        return not parts[0]
    if kind == BOTH:
        return parts[0] and parts[1]
    if kind == EITHER:
        return parts[0] or parts[1]
    if kind == ONE_ALONE:
        return parts[0] != parts[1]
    return parts[1] if parts[0] else parts[2]
