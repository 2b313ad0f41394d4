"""What shows that nothing bad is ever come to: clauses, a claim, steps back."""

from safeforever.clause import clauses_up_to, where_clause
from safeforever.state_sets import is_within, set_of, states_in
from safeforever.walks import linked, links_back, steps_to_bad


def proof(machine, width):
    clauses = clauses_up_to(width, machine.bits)
    left = what_is_left(machine, clauses)
    told = held_but_no_part(clauses, left)
    answer = [shuts_out_bad(machine, left), len(states_in(left)), len(told)]
    for clause in told:
        answer.append(len(clause))
        answer.extend(clause)
    return answer


def least(machine):
    for width in range(machine.bits + 1):
        left = what_is_left(machine, clauses_up_to(width, machine.bits))
        if shuts_out_bad(machine, left) == 1:
            return [1, width]
    return [0]


def steps(machine):
    doomed = steps_to_bad(machine)
    if any([state in doomed for state in machine.first]):
        return [0]
    before = links_back(machine.after)
    bad = set_of(machine.bad)
    # With which states a row of so many that aren't bad, then a bad one, begins.
    begins = bad
    # Some state is bad, so a row of as many that aren't as there are states has
    # one of them twice: it can go round there, and be of any length.
    for count in range(len(machine.after) + 1):
        if begins == 0:
            return [1, count]
        begins = all_linked(begins, before) & ~bad
    return [0]


def claim(machine, terms):
    so = machine.states_where(terms)
    outside = [state for state in machine.first if state not in so]
    if len(outside) > 0:
        return [0, 1, min(outside)]
    for state in so:
        for inputs, behind in enumerate(machine.after[state]):
            if behind not in so:
                return [0, 2, state, inputs]
    inside = [state for state in machine.bad if state in so]
    if len(inside) > 0:
        return [0, 3, min(inside)]
    return [1]


def keep(machine, clauses):
    wheres = [where_clause(clause, machine.bits) for clause in clauses]
    places = staying(machine, wheres)
    left = where_all(machine, [wheres[place] for place in places])
    return [len(places)] + places + [shuts_out_bad(machine, left)]


# The least kept set that some of the clauses tell: it grows while first or next
# states are missing, by these and by what no clause can tell apart from all in it.
def what_is_left(machine, clauses):
    left = 0
    needed = set_of(machine.first)
    while not is_within(needed, left):
        wanted = left | needed
        left = where_all(machine, [where for clause, where in clauses if is_within(wanted, where)])
        needed = all_linked(left, machine.after)
    return left


def where_all(machine, wheres):
    states = (1 << len(machine.after)) - 1
    for where in wheres:
        states &= where
    return states


def all_linked(states, links):
    return set_of(linked(states_in(states), links))


def shuts_out_bad(machine, states):
    return 1 if states & set_of(machine.bad) == 0 else 0


# A clause's parts stand ahead of it, and if some part of it holds, then so does
# one that has just one literal less.
def held_but_no_part(clauses, states):
    held = {}
    told = []
    for clause, where in clauses:
        if is_within(states, where):
            held[clause] = True
            if not any([part in held for part in one_shorter(clause)]):
                told.append(clause)
    return told


def one_shorter(clause):
    return [clause[:place] + clause[place + 1:] for place in range(len(clause))]


# The places of the clauses that stay. When one goes, there may be more states in
# which all others do hold: so these are looked at once more.
def staying(machine, wheres):
    needed = set_of(machine.first)
    places = [place for place, where in enumerate(wheres) if is_within(needed, where)]
    some_went = True
    while some_went:
        needed = all_linked(where_all(machine, [wheres[place] for place in places]), machine.after)
        stay = [place for place in places if is_within(needed, wheres[place])]
        some_went = len(stay) < len(places)
        places = stay
    return places
