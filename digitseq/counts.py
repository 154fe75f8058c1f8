"""How often a machine's sequence has a term, ahead of some number."""

from digitseq.machine import digits_of


def count_term(machine, told, end):
    """How many of the numbers from 0 to end - 1 have the term told."""
    # With zeros ahead, which change nothing, each number below end has as many digits as
    # end. Its first digits are end's own, then comes a lower one, then any. So for each
    # state it's counted how many rows of digits come to it that are below end's already.
    below = [0] * len(machine.tells)
    along = 0
    for digit in digits_of(end, machine.base):
        below = with_any_digit_behind(machine, below)
        for lower in range(digit):
            below[machine.ways[along][lower]] += 1
        along = machine.ways[along][digit]
    return sum([many for tells, many in zip(machine.tells, below) if tells == told])


def with_any_digit_behind(machine, counts):
    """For each state how many rows of digits come to it when counts did one digit before."""
    behind = [0] * len(counts)
    for state, many in enumerate(counts):
        for way in machine.ways[state]:
            behind[way] += many
    return behind
