"""Four places for machines, and the calls on them."""

from digitseq.counts import count_term
from digitseq.differences import first_difference
from digitseq.joins import GREATER, SUM, join_machines
from digitseq.kernels import count_kernel
from digitseq.least import least_machine
from digitseq.machine import MOST_STATES, read_machine, term_at
from digitseq.rows import first_row

PLACES = 4
MOST_SEQUENCES = 1000
MOST_TOLD = 255
MOST_ROW = 32
MOST_DIGITS = 4200
# 2^63: so far up, count is not answered.
END_OF_COUNT = 9223372036854775808

REFUSED = -1
TOO_MANY = -2
NO_NUMBER = -2

BEGIN = 0
SET = 1
TERM = 2
STATES = 3
KERNEL = 4
COUNT = 5
DIFFER = 6
FIND = 7
BOTH = 8

# For each call in turn: how many whole numbers it has, and how many rows behind them.
NUMBERS = (0, 3, 2, 1, 1, 3, 3, 2, 4)
ROWS = (0, 1, 0, 0, 0, 0, 0, 1, 0)


class Places:
    """The machines by their places; an empty place has none."""

    def __init__(self):
        self.machines = {}

    def begin(self):
        """Empties all places."""
        self.machines = {}
        return 0

    def put(self, place, base, count, table):
        """Gives the place the machine that the table tells."""
        if not is_place(place):
            return REFUSED
        machine = read_machine(base, count, table)
        if machine is None:
            return REFUSED
        # What is promised hangs on base and sequence alone, so the least one will do.
        self.machines[place] = least_machine(machine, MOST_STATES)
        return 0

    def term(self, place, number):
        """The term of the number."""
        if place not in self.machines:
            return REFUSED
        return term_at(self.machines[place], number)

    def states(self, place):
        """How many states a machine of this base and sequence needs."""
        if place not in self.machines:
            return REFUSED
        return len(self.machines[place].tells)

    def kernel(self, place):
        """How many different sequences there are at numbers with given last digits."""
        if place not in self.machines:
            return REFUSED
        many = count_kernel(self.machines[place], MOST_SEQUENCES)
        if many > MOST_SEQUENCES:
            return TOO_MANY
        return many

    def count_numbers(self, place, told, end):
        """How many of the numbers from 0 to end - 1 have the term told."""
        if place not in self.machines or told < 0 or told > MOST_TOLD or end >= END_OF_COUNT:
            return REFUSED
        return count_term(self.machines[place], told, end)

    def differ(self, place, other, most):
        """The least number with different terms at the places: its length, and its first digits."""
        if not self.have_one_base(place, other):
            return [REFUSED]
        return first_digits(first_difference(self.machines[place], self.machines[other]), most)

    def find_row(self, place, most, row):
        """The least number at which the row stands: its length, and its first digits."""
        if place not in self.machines or len(row) < 1 or len(row) > MOST_ROW:
            return [REFUSED]
        return first_digits(first_row(self.machines[place], row), most)

    def put_both(self, target, place, other, what):
        """Gives the target a machine that tells what is asked of the terms at the two places."""
        if not is_place(target) or not self.have_one_base(place, other) or what < SUM or what > GREATER:
            return REFUSED
        machine = least_machine(join_machines(self.machines[place], self.machines[other], what), MOST_STATES)
        if machine is None:
            return TOO_MANY
        self.machines[target] = machine
        return 0

    def have_one_base(self, place, other):
        """Whether there is a machine at each of the two places, both of one base."""
        if place not in self.machines or other not in self.machines:
            return False
        return self.machines[place].base == self.machines[other].base


def is_place(place):
    """Whether there is such a place, be it empty or not."""
    return place >= 0 and place < PLACES


def first_digits(digits, most):
    """How many digits there are, then the first most of them; or that there is no number."""
    if digits is None:
        return [NO_NUMBER]
    if most < 1 or most > MOST_DIGITS:
        return [len(digits)]
    return [len(digits)] + digits[:most]


def answers(calls):
    """What each call in the list answers, with how many numbers it has before it."""
    places = Places()
    told = []
    at = 0
    while at < len(calls):
        call = calls[at]
        start = at + 1
        at = start + NUMBERS[call]
        given = calls[start:at]
        for row in range(ROWS[call]):
            start = at + 1
            at = start + calls[at]
            given.append(calls[start:at])
        answer = answer_call(places, call, given)
        told.append(len(answer))
        told.extend(answer)
    return told


def answer_call(places, call, given):
    """The numbers that the call answers."""
    if call == BEGIN:
        return [places.begin()]
    if call == SET:
        return [places.put(given[0], given[1], given[2], given[3])]
    if call == TERM:
        return [places.term(given[0], given[1])]
    if call == STATES:
        return [places.states(given[0])]
    if call == KERNEL:
        return [places.kernel(given[0])]
    if call == COUNT:
        return [places.count_numbers(given[0], given[1], given[2])]
    if call == DIFFER:
        return places.differ(given[0], given[1], given[2])
    if call == FIND:
        return places.find_row(given[0], given[1], given[2])
    return [places.put_both(given[0], given[1], given[2], given[3])]
