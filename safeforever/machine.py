"""The answers to the calls on one machine."""

from safeforever.automaton import Automaton
from safeforever.calls import BAD, CLAIM, DOOM, FIRST, KEEP, LEAST, NEXT
from safeforever.calls import PROOF, REACH, START, STEP, STEPS, WAY, read_calls
from safeforever.clause import read_clauses
from safeforever.condition import read_condition
from safeforever.proofs import claim, keep, least, proof, steps
from safeforever.walks import doom, far, reach, way

MOST_BITS = 6
MOST_INPUTS = 2


def answers(calls):
    machine = Automaton()
    told = []
    for call in read_calls(calls):
        answer = answer_call(machine, call[0], call[1], call[2])
        told.append(len(answer))
        told.extend(answer)
    return told


def answer_call(machine, number, numbers, row):
    if number == START:
        return answer_start(machine, numbers[0], numbers[1])
    if number == NEXT:
        return answer_next(machine, numbers[0], row)
    if number == FIRST:
        return answer_first(machine, row)
    if number == BAD:
        return answer_bad(machine, row)
    if number == REACH:
        return reach(machine)
    if number == WAY:
        return way(machine)
    if number == DOOM:
        return doom(machine)
    if number == PROOF:
        return answer_proof(machine, numbers[0])
    if number == LEAST:
        return least(machine)
    if number == STEPS:
        return steps(machine)
    if number == CLAIM:
        return answer_claim(machine, row)
    if number == KEEP:
        return answer_keep(machine, row)
    if number == STEP:
        return answer_step(machine, numbers[0], numbers[1])
    return answer_far(machine, numbers[0])


def answer_start(machine, bits, inputs):
    if bits < 1 or bits > MOST_BITS or inputs > MOST_INPUTS:
        return [-1]
    machine.begin(bits, inputs)
    return [len(machine.after)]


def answer_next(machine, bit, row):
    # Ahead of the condition: of several refusals the one told first is given.
    if bit >= machine.bits:
        return [-2]
    terms = read_condition(row, machine.bits, machine.inputs)
    if terms is None:
        return [-1]
    machine.set_bit(bit, terms)
    return [bit]


def answer_first(machine, row):
    terms = read_state_condition(machine, row)
    if terms is None:
        return [-1]
    machine.first = machine.states_where(terms)
    return [len(machine.first)]


def answer_bad(machine, row):
    terms = read_state_condition(machine, row)
    if terms is None:
        return [-1]
    machine.bad = machine.states_where(terms)
    return [len(machine.bad)]


def answer_proof(machine, width):
    if width > machine.bits:
        return [-1]
    return proof(machine, width)


def answer_claim(machine, row):
    terms = read_state_condition(machine, row)
    if terms is None:
        return [-1]
    return claim(machine, terms)


def answer_keep(machine, row):
    clauses = read_clauses(row, machine.bits)
    if clauses is None:
        return [-1]
    return keep(machine, clauses)


def answer_step(machine, state, inputs):
    if state >= len(machine.after) or inputs >= len(machine.after[state]):
        return [-2]
    return [machine.after[state][inputs]]


def answer_far(machine, state):
    if state >= len(machine.after):
        return [-2]
    return far(machine, state)


def read_state_condition(machine, row):
    return read_condition(row, machine.bits, 0)
