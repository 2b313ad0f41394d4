"""How a machine's runs go on: what they come to, and how soon."""


def reach(machine):
    return counted(totals(layers(machine.first, machine.after)))


def doom(machine):
    return counted(totals(layers(machine.bad, links_back(machine.after))))


def way(machine):
    steps = steps_to_bad(machine)
    doomed = [state for state in machine.first if state in steps]
    if len(doomed) == 0:
        return [0]
    left = min([steps[state] for state in doomed])
    here = min([state for state in doomed if steps[state] == left])
    answer = [1, left, here]
    while left > 0:
        left -= 1
        inputs = least_inputs(machine.after[here], steps, left)
        here = machine.after[here][inputs]
        answer.append(inputs)
        answer.append(here)
    return answer


def far(machine, state):
    steps = steps_to_bad(machine)
    return [1, steps[state]] if state in steps else [0]


def counted(numbers):
    return [len(numbers)] + numbers


def totals(rows):
    sums = []
    total = 0
    for row in rows:
        total += len(row)
        sums.append(total)
    return sums


# The states no step away from those given, one step, two steps and so on, each
# at its fewest steps alone. The first layer is there even if it has no state,
# as there's nothing before it that it would have to be more than.
def layers(states, links):
    seen = {}
    layer = unseen(states, seen)
    found = [layer]
    while len(layer) > 0:
        layer = unseen(linked(layer, links), seen)
        if len(layer) > 0:
            found.append(layer)
    return found


def linked(states, links):
    others = []
    for state in states:
        others.extend(links[state])
    return others


# Also marks them as seen, so that each is taken once.
def unseen(states, seen):
    fresh = []
    for state in states:
        if state not in seen:
            seen[state] = True
            fresh.append(state)
    return fresh


def links_back(after):
    before = [[] for state in after]
    for state, row in enumerate(after):
        for behind in row:
            before[behind].append(state)
    return before


def steps_to_bad(machine):
    steps = {}
    for count, layer in enumerate(layers(machine.bad, links_back(machine.after))):
        for state in layer:
            steps[state] = count
    return steps


def least_inputs(row, steps, left):
    return min([inputs for inputs, behind in enumerate(row) if steps.get(behind) == left])
