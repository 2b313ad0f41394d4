"""Machines made up by dice, and what may be asked of them."""


def made_up(dice, n, m, room):
    """A condition of at most so many numbers."""
    kinds = [0, 1] + ([2] * 6 + [3] * (3 if m else 0) if room >= 2 else [])
    kinds += [4] * 2 if room >= 3 else []
    kinds += [5, 6, 7] * 3 if room >= 5 else []
    kinds += [8] * 3 if room >= 7 else []
    kind = dice.choice(kinds)
    if kind == 2:
        return [2, dice.randrange(n)]
    if kind == 3:
        return [3, dice.randrange(m)]
    parts = {4: 1, 5: 2, 6: 2, 7: 2, 8: 3}.get(kind, 0)
    told = [kind]
    for part in range(parts):
        told += made_up(dice, n, m, (room - 1) // parts)
    return told


def shifted(dice, n, m, room):
    """A bit, turned or not by another or an input: such runs go on for long."""
    told = [2, dice.randrange(n)]
    for turn in range(dice.randrange(3)):
        by = [3, dice.randrange(m)] if m and dice.randrange(2) else [2, dice.randrange(n)]
        told = [dice.choice((5, 6, 7, 7, 7))] + told + by
    return [4] + told if dice.randrange(3) == 0 else told


def cube(dice, n, told_bits):
    """The condition that so many of the bits are as told."""
    condition = [1]
    for bit in dice.sample(range(n), told_bits):
        condition = [5] + dice.choice(([2, bit], [4, 2, bit])) + condition
    return condition


def some_states(dice, n):
    """A condition of the state: of any kind, or of few states."""
    if dice.randrange(4) == 0:
        return made_up(dice, n, 0, dice.choice((2, 5, 20, 40)))
    return cube(dice, n, dice.randrange(max(1, n - 2), n + 1))


def machine(dice, n, m):
    """By which conditions its bits are 1 next, which states are first, and bad."""
    make_next = dice.choice((shifted, shifted, made_up))
    nexts = [make_next(dice, n, m, dice.choice((3, 12, 40))) for i in range(n)]
    return nexts, some_states(dice, n), some_states(dice, n)


def clause(dice, n):
    """Mostly of few literals; perhaps one twice, or a bit and its contrary."""
    bits = [dice.randrange(1, n + 1) for place in range(dice.choice((1, 1, 2, 2, 2, 3, 4)))]
    return [dice.choice((bit, -bit)) for bit in bits]


def clauses(dice, n):
    told = [clause(dice, n) for place in range(dice.choice((0, 1, 2, 3, 5, 7)))]
    return told + told[:1] if dice.randrange(5) == 0 else told
