"""Builds the list of calls, and takes the list of answers apart."""

from safeforever.machine import answers


def start(n, m):
    return [0, n, m]


def next_bit(i, condition):
    return [1, i, len(condition)] + condition


def first(condition):
    return [2, len(condition)] + condition


def bad(condition):
    return [3, len(condition)] + condition


REACH = [4]
WAY = [5]
DOOM = [6]


def proof(w):
    return [7, w]


LEAST = [8]
STEPS = [9]


def claim(condition):
    return [10, len(condition)] + condition


def keep(*clauses):
    row = join([[len(clause)] + clause for clause in clauses])
    return [11, len(row)] + row


def step(state, inputs):
    return [12, state, inputs]


def far(state):
    return [13, state]


def join(calls):
    return [number for call in calls for number in call]


def split(numbers):
    rows = []
    place = 0
    while place < len(numbers):
        count = numbers[place]
        rows.append(numbers[place + 1:place + 1 + count])
        assert len(rows[-1]) == count, "an answer breaks off"
        place += 1 + count
    return rows


def ask(*calls):
    """The answer to each call, as a list of its numbers."""
    return split(answers(join(calls)))


def ask_last(*calls):
    return ask(*calls)[-1]


def ask_after(told, *calls):
    """The answers to the calls behind those told, on a machine told so."""
    return ask(*told, *calls)[len(told):]


def is_state(n, state):
    """The condition that is so in this one state alone."""
    condition = []
    for bit in range(n):
        literal = [2, bit] if state >> bit & 1 else [4, 2, bit]
        condition = literal if bit == 0 else [5] + literal + condition
    return condition


def one_of(conditions):
    joined = conditions[0]
    for condition in conditions[1:]:
        joined = [6] + condition + joined
    return joined


def counter(n):
    """Calls by which the state goes up by one, and from the last to 0."""
    calls = []
    carry = [1]
    for bit in range(n):
        calls.append(next_bit(bit, [7, 2, bit] + carry))
        carry = [5, 2, bit] + carry
    return calls


def ring(n):
    """Calls by which what bit 0 is goes to bit 1, and so on, and round."""
    return [next_bit(bit, [2, (bit - 1) % n]) for bit in range(n)]
