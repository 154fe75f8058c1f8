"""Two machines of one base, joined into one."""

from digitseq.machine import Machine

SUM = 0
PRODUCT = 1
SAME = 2
LESS = 3
GREATER = 4

# What is told is a number from 0 to 255.
TELLINGS = 256


def join_machines(left, right, what):
    """A machine that tells, of the terms that both tell of each number, what is asked."""
    # Its states are the pairs of theirs, numbered row by row: so 0 is the pair of both 0.
    width = len(right.tells)
    ways = []
    tells = []
    for state in range(len(left.tells)):
        for other in range(width):
            ways.append(pair_ways(left.ways[state], right.ways[other], width))
            tells.append(join_terms(left.tells[state], right.tells[other], what))
    return Machine(left.base, ways, tells)


def pair_ways(left_ways, right_ways, width):
    """The pairs that a pair of states goes to, digit by digit."""
    return [left_way * width + right_way for left_way, right_way in zip(left_ways, right_ways)]


def join_terms(one, other, what):
    """What is told of the two terms."""
    if what == SUM:
        return (one + other) % TELLINGS
    if what == PRODUCT:
        return one * other % TELLINGS
    if what == SAME:
        return 1 if one == other else 0
    if what == LESS:
        return min(one, other)
    return max(one, other)
