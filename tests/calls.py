"""What the tests share: how calls are written, and machines read straight from their tables."""

from digitseq.places import answers

LEAST = -2147483648
MOST = 2147483647

OUTSIDE_PLACES = (-1, 4, LEAST, MOST)


def begin():
    return [0]


def put(i, k, n, table):
    return [1, i, k, n, len(table)] + list(table)


def term(i, m):
    return [2, i, m]


def states(i):
    return [3, i]


def kernel(i):
    return [4, i]


def ask(*calls):
    """What each call answers behind begin, as a list of lists, begin's own left out."""
    handed = begin()
    for call in calls:
        handed = handed + call
    told = answers(handed)
    parts = []
    at = 0
    while at < len(told):
        parts.append(told[at + 1:at + 1 + told[at]])
        at += 1 + told[at]
    if parts[0] != [0]:
        raise AssertionError("begin answered %r" % (parts[0],))
    return parts[1:]


def ask_one(machine, *calls):
    """As ask, with the machine (k, n, table) set at place 0 before; each answer a number."""
    parts = ask(put(0, *machine), *calls)
    if parts[0] != [0]:
        raise AssertionError("set answered %r" % (parts[0],))
    for part in parts:
        if len(part) != 1:
            raise AssertionError("not one number: %r" % (part,))
    return [part[0] for part in parts[1:]]


def machine_of(k, rows):
    """(k, n, table) of a machine whose rows are its states' ways with what is told last."""
    return k, len(rows), [number for row in rows for number in row]


def constant(k, tells):
    return machine_of(k, [[0] * k + [tells]])


def remainder(k, p):
    """Tells m modulo p."""
    return machine_of(k, [[(s * k + d) % p for d in range(k)] + [s] for s in range(p)])


def digit_sum(k, p):
    """Tells the sum of m's digits modulo p."""
    return machine_of(k, [[(s + d) % p for d in range(k)] + [s] for s in range(p)])


def last_digit(k):
    return machine_of(k, [list(range(k)) + [s] for s in range(k)])


def first_digit(k):
    return machine_of(k, [list(range(k)) + [0]] + [[s] * k + [s] for s in range(1, k)])


def permuting(tells):
    """Digit 0 turns all states but 0 round, digit 1 swaps 0 and 1: all orders can be made."""
    n = len(tells)
    turned = [0] + list(range(2, n)) + [1]
    swapped = [1, 0] + list(range(2, n))
    return machine_of(2, [[turned[s], swapped[s], tells[s]] for s in range(n)])


def plain_term(machine, m):
    """The term by the table alone, with the digits found from the highest power down."""
    k, n, table = machine
    power = 1
    while power * k <= m:
        power *= k
    state = 0
    while power > 0:
        state = table[state * (k + 1) + m // power % k]
        power //= k
    return table[state * (k + 1) + k]


def plain_states(machine):
    """How many states are needed: as many as heads that some tail tells apart.

    n digits come to each state, and fewer than n tell any two states apart.
    """
    k, n, table = machine
    rows = set()
    for head in range(k ** (n - 1)):
        row = []
        for length in range(n):
            for tail in range(k ** length):
                row.append(plain_term(machine, head * k ** length + tail))
        rows.add(tuple(row))
    return len(rows)


def plain_kernel(machine, heads):
    """How many sequences the kernel has, told apart by their first terms.

    heads is how many numbers are tried, enough of them to come to each state. The
    sequence of (e + 1, d k^e + r) is a part of that of (e, r), so what is found
    already need not be followed again.
    """
    k, n, table = machine

    def first_terms(e, r):
        return tuple(plain_term(machine, k ** e * m + r) for m in range(heads))

    waiting = [(0, 0)]
    seen = {first_terms(0, 0)}
    for e, r in waiting:
        for d in range(k):
            ahead = (e + 1, d * k ** e + r)
            terms = first_terms(*ahead)
            if terms not in seen:
                seen.add(terms)
                waiting.append(ahead)
    return len(seen)


def small_machines(step):
    """Each step-th of the machines of base 2 with 3 states that tell 0 or 1."""
    for number in range(0, 3 ** 5 * 8, step):
        digits = []
        for size in (3, 3, 3, 3, 3, 2, 2, 2):
            digits.append(number % size)
            number //= size
        a, b, c, d, e, x, y, z = digits
        yield machine_of(2, [[0, a, x], [b, c, y], [d, e, z]])
