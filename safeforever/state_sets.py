"""Sets of states, each as one number: the sum of 2^s for the states s in it."""


def set_of(states):
    whole = 0
    for state in states:
        whole |= 1 << state
    return whole


def states_in(states):
    return [state for state in range(states.bit_length()) if (states >> state) & 1 == 1]


def is_within(states, others):
    return (states | others) == others
