"""The sequences that a machine's sequence has at the numbers with given last digits."""


def count_kernel(machine, most):
    """How many different ones there are; most + 1 if they are more than most.

    Each state of the machine must be one that some number comes to.
    """
    # Such a sequence reads m, then the e digits of r. So it is known by what is told
    # from each state on after those digits, and since some m comes to each state,
    # two that differ there are different sequences.
    found = [tuple(machine.tells)]
    known = {found[0]: True}
    at = 0
    while at < len(found):
        for digit in range(machine.base):
            tells = with_digit_ahead(machine, found[at], digit)
            if tells not in known:
                known[tells] = True
                found.append(tells)
                if len(found) > most:
                    return len(found)
        at += 1
    return len(found)


def with_digit_ahead(machine, tells, digit):
    """What is told from each state on if the digit is read ahead of the others."""
    return tuple([tells[ways[digit]] for ways in machine.ways])
