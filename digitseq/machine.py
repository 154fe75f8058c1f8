"""A machine that reads a number's digits: its table, and the terms it tells."""

LEAST_BASE = 2
MOST_BASE = 10
MOST_STATES = 64


class Machine:
    """A base; for each state its ways, digit by digit; and what each state tells."""

    def __init__(self, base, ways, tells):
        self.base = base
        self.ways = ways
        self.tells = tells


def read_machine(base, count, table):
    """The machine of count states that the table tells, or None if it tells none."""
    if base < LEAST_BASE or base > MOST_BASE or count < 1 or count > MOST_STATES:
        return None
    width = base + 1
    if len(table) != count * width:
        return None
    rows = [table[start:start + width] for start in range(0, len(table), width)]
    machine = Machine(base, [row[:base] for row in rows], [row[base] for row in rows])
    if not all([goes_to_states(ways, count) for ways in machine.ways]):
        return None
    # Without this, zeros ahead of a number would change its term.
    if machine.ways[0][0] != 0:
        return None
    return machine


def goes_to_states(ways, count):
    """Whether each of the ways leads to one of the states 0 to count - 1."""
    return min(ways) >= 0 and max(ways) < count


def digits_of(number, base):
    """The digits of the number, the highest first; of 0 there is one, 0."""
    digits = [number % base]
    rest = number // base
    while rest > 0:
        digits.append(rest % base)
        rest = rest // base
    digits.reverse()
    return digits


def term_at(machine, number):
    """What the state tells that the machine comes to by the number's digits."""
    state = 0
    for digit in digits_of(number, machine.base):
        state = machine.ways[state][digit]
    return machine.tells[state]
