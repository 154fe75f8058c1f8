"""The machine with the fewest states among those of one base and sequence."""

from digitseq.machine import Machine


def least_machine(machine):
    """A machine of the same base and sequence with as few states as there can be."""
    states = reached_states(machine)
    kinds = kinds_of(machine, states)
    ways = []
    tells = []
    for state in states:
        # Kinds are numbered as they first come, so a new one is the next number;
        # state 0 comes first and stays state 0.
        if kinds[state] == len(tells):
            ways.append([kinds[way] for way in machine.ways[state]])
            tells.append(machine.tells[state])
    return Machine(machine.base, ways, tells)


def reached_states(machine):
    """The states that some number comes to, state 0 first."""
    states = [0]
    known = {0: True}
    at = 0
    while at < len(states):
        for way in machine.ways[states[at]]:
            if way not in known:
                known[way] = True
                states.append(way)
        at += 1
    return states


def kinds_of(machine, states):
    """For each of the states its kind: two have one kind if no digits tell them apart."""
    kinds = numbered(states, [machine.tells[state] for state in states])
    many = 0
    # A round without a new kind is the last: each later one would part nothing either.
    while many < count_kinds(kinds):
        many = count_kinds(kinds)
        kinds = numbered(states, [look_ahead(machine, kinds, state) for state in states])
    return kinds


def look_ahead(machine, kinds, state):
    """The state's kind, and behind it the kinds it goes to, digit by digit."""
    return (kinds[state], tuple([kinds[way] for way in machine.ways[state]]))


def numbered(states, marks):
    """For each state a number: the same for the same mark, in the order in which they come."""
    numbers = {}
    kinds = {}
    for state, mark in zip(states, marks):
        if mark not in numbers:
            numbers[mark] = len(numbers)
        kinds[state] = numbers[mark]
    return kinds


def count_kinds(kinds):
    """How many kinds there are."""
    return max(kinds.values()) + 1
