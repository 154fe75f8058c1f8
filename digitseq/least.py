"""The machine with the fewest states among those of one base and sequence."""

from digitseq.machine import Machine


def least_machine(machine, most):
    """A machine of the same base and sequence with as few states as there can be.

    None if that's more than most.
    """
    states = reached_states(machine)
    kinds = kinds_of(machine, states, most)
    if count_kinds(kinds) > most:
        return None
    ways = []
    tells = []
    for state in states:
        # Kinds are numbered as they first come, so a new one is the next number;
        # state 0 comes first and stays state 0.
        if kinds[state] == len(tells):
            ways.append([kinds[way] for way in machine.ways[state]])
            tells.append(machine.tells[state])
    return Machine(machine.base, ways, tells)


def reached_states(machine):
    """The states that some number comes to, state 0 first."""
    states = [0]
    known = {0: True}
    at = 0
    while at < len(states):
        for way in machine.ways[states[at]]:
            if way not in known:
                known[way] = True
                states.append(way)
        at += 1
    return states


def kinds_of(machine, states, most):
    """For each of the states its kind: two have one kind if no digits tell them apart.

    Where there are more than most kinds, they may be told apart in part only.
    """
    kinds = numbered(states, [machine.tells[state] for state in states])
    many = 0
    # A round without a new kind is the last: each later one would part nothing either.
    # Kinds never become one again, so with more than most there's nothing left to know.
    while many < count_kinds(kinds) and count_kinds(kinds) <= most:
        many = count_kinds(kinds)
        kinds = numbered(states, [look_ahead(machine, kinds, state) for state in states])
    return kinds


def look_ahead(machine, kinds, state):
    """The state's kind, and behind it the kinds it goes to, digit by digit."""
    return (kinds[state], tuple([kinds[way] for way in machine.ways[state]]))


def numbered(states, marks):
    """For each state a number: the same for the same mark, in the order in which they come."""
    numbers = {}
    kinds = {}
    for state, mark in zip(states, marks):
        if mark not in numbers:
            numbers[mark] = len(numbers)
        kinds[state] = numbers[mark]
    return kinds


def count_kinds(kinds):
    """How many kinds there are."""
    return max(kinds.values()) + 1
