"""Four places for machines, and the calls on them."""

from digitseq.kernels import count_kernel
from digitseq.least import least_machine
from digitseq.machine import read_machine, term_at

PLACES = 4
MOST_SEQUENCES = 1000

REFUSED = -1
TOO_MANY = -2

BEGIN = 0
SET = 1
TERM = 2
STATES = 3
KERNEL = 4

# For each call in turn: how many whole numbers it has, and how many rows behind them.
NUMBERS = (0, 3, 2, 1, 1)
ROWS = (0, 1, 0, 0, 0)


class Places:
    """The machines by their places; an empty place has none."""

    def __init__(self):
        self.machines = {}

    def begin(self):
        """Empties all places."""
        self.machines = {}
        return 0

    def put(self, place, base, count, table):
        """Gives the place the machine that the table tells."""
        if place < 0 or place >= PLACES:
            return REFUSED
        machine = read_machine(base, count, table)
        if machine is None:
            return REFUSED
        # What is promised hangs on base and sequence alone, so the least one will do.
        self.machines[place] = least_machine(machine)
        return 0

    def term(self, place, number):
        """The term of the number."""
        if place not in self.machines:
            return REFUSED
        return term_at(self.machines[place], number)

    def states(self, place):
        """How many states a machine of this base and sequence needs."""
        if place not in self.machines:
            return REFUSED
        return len(self.machines[place].tells)

    def kernel(self, place):
        """How many different sequences there are at numbers with given last digits."""
        if place not in self.machines:
            return REFUSED
        many = count_kernel(self.machines[place], MOST_SEQUENCES)
        if many > MOST_SEQUENCES:
            return TOO_MANY
        return many


def answers(calls):
    """What each call in the list answers, with how many numbers it has before it."""
    places = Places()
    told = []
    at = 0
    while at < len(calls):
        call = calls[at]
        start = at + 1
        at = start + NUMBERS[call]
        given = calls[start:at]
        for row in range(ROWS[call]):
            start = at + 1
            at = start + calls[at]
            given.append(calls[start:at])
        answer = answer_call(places, call, given)
        told.append(len(answer))
        told.extend(answer)
    return told


def answer_call(places, call, given):
    """The numbers that the call answers."""
    if call == BEGIN:
        return [places.begin()]
    if call == SET:
        return [places.put(given[0], given[1], given[2], given[3])]
    if call == TERM:
        return [places.term(given[0], given[1])]
    if call == STATES:
        return [places.states(given[0])]
    return [places.kernel(given[0])]
