"""What the tests share: how calls are written, and machines read straight from their tables."""

from digitseq.places import answers

LEAST = -2147483648
MOST = 2147483647

OUTSIDE_PLACES = (-1, 4, LEAST, MOST)


def begin():
    return [0]


def put(i, k, n, table):
    return [1, i, k, n, len(table)] + list(table)


def term(i, m):
    return [2, i, m]


def states(i):
    return [3, i]


def kernel(i):
    return [4, i]


def count(i, x, n):
    return [5, i, x, n]


def differ(i, j, most):
    return [6, i, j, most]


def find(i, row, most):
    return [7, i, most, len(row)] + list(row)


def both(d, i, j, what):
    return [8, d, i, j, what]


def ask(*calls):
    """What each call answers behind begin, as a list of lists, begin's own left out."""
    handed = begin()
    for call in calls:
        handed = handed + call
    told = answers(handed)
    parts = []
    at = 0
    while at < len(told):
        parts.append(told[at + 1:at + 1 + told[at]])
        at += 1 + told[at]
    if parts[0] != [0]:
        raise AssertionError("begin answered %r" % (parts[0],))
    return parts[1:]


def ask_one(machine, *calls):
    """As ask, with the machine (k, n, table) set at place 0 before; each answer a number."""
    parts = ask(put(0, *machine), *calls)
    if parts[0] != [0]:
        raise AssertionError("set answered %r" % (parts[0],))
    for part in parts:
        if len(part) != 1:
            raise AssertionError("not one number: %r" % (part,))
    return [part[0] for part in parts[1:]]


def machine_of(k, rows):
    """(k, n, table) of a machine whose rows are its states' ways with what is told last."""
    return k, len(rows), [number for row in rows for number in row]


def constant(k, tells):
    return machine_of(k, [[0] * k + [tells]])


def remainder(k, p):
    """Tells m modulo p."""
    return machine_of(k, [[(s * k + d) % p for d in range(k)] + [s] for s in range(p)])


def digit_sum(k, p):
    """Tells the sum of m's digits modulo p."""
    return machine_of(k, [[(s + d) % p for d in range(k)] + [s] for s in range(p)])


def last_digit(k):
    return machine_of(k, [list(range(k)) + [s] for s in range(k)])


def first_digit(k):
    return machine_of(k, [list(range(k)) + [0]] + [[s] * k + [s] for s in range(1, k)])


def length(k, most):
    """Tells how many digits m has, most where they're more; of 0 it tells 0."""
    rows = [[0] + [1] * (k - 1) + [0]]
    rows += [[min(s + 1, most)] * k + [s] for s in range(1, most + 1)]
    return machine_of(k, rows)


def digit_counter(k, digit, p):
    """Tells how often the digit, not 0, stands in m, modulo p."""
    return machine_of(k, [[(s + (d == digit)) % p for d in range(k)] + [s] for s in range(p)])


def telling(machine, tells):
    """The same machine with other tellings."""
    k, n, table = machine
    width = k + 1
    return machine_of(k, [table[s * width:s * width + k] + [tells[s]] for s in range(n)])


def word(k, digits):
    """Tells 1 if the digits, one behind another, come before they are broken off, else 0.

    A digit that's another one leads back to the start; the first of them is not 0. So
    the least number with term 1 has just these digits.
    """
    n = len(digits) + 1
    rows = [[s + 1 if d == digits[s] else 0 for d in range(k)] + [0] for s in range(n - 1)]
    return machine_of(k, rows + [[n - 1] * k + [1]])


def permuting(tells):
    """Digit 0 turns all states but 0 round, digit 1 swaps 0 and 1: all orders can be made."""
    n = len(tells)
    turned = [0] + list(range(2, n)) + [1]
    swapped = [1, 0] + list(range(2, n))
    return machine_of(2, [[turned[s], swapped[s], tells[s]] for s in range(n)])


def plain_digits(m, k):
    """The number's digits, from the highest power down."""
    power = 1
    while power * k <= m:
        power *= k
    digits = []
    while power > 0:
        digits.append(m // power % k)
        power //= k
    return digits


def plain_term(machine, m):
    """The term by the table alone."""
    k, n, table = machine
    state = 0
    for digit in plain_digits(m, k):
        state = table[state * (k + 1) + digit]
    return table[state * (k + 1) + k]


def plain_states(machine):
    """How many states are needed: as many as heads that some tail tells apart.

    n digits come to each state, and fewer than n tell any two states apart.
    """
    k, n, table = machine
    rows = set()
    for head in range(k ** (n - 1)):
        row = []
        for length in range(n):
            for tail in range(k ** length):
                row.append(plain_term(machine, head * k ** length + tail))
        rows.add(tuple(row))
    return len(rows)


def plain_kernel(machine, heads):
    """How many sequences the kernel has, told apart by their first terms.

    heads is how many numbers are tried, enough of them to come to each state. The
    sequence of (e + 1, d k^e + r) is a part of that of (e, r), so what is found
    already need not be followed again.
    """
    k, n, table = machine

    def first_terms(e, r):
        return tuple(plain_term(machine, k ** e * m + r) for m in range(heads))

    waiting = [(0, 0)]
    seen = {first_terms(0, 0)}
    for e, r in waiting:
        for d in range(k):
            ahead = (e + 1, d * k ** e + r)
            terms = first_terms(*ahead)
            if terms not in seen:
                seen.add(terms)
                waiting.append(ahead)
    return len(seen)


def small_machines(step):
    """Each step-th of the machines of base 2 with 3 states that tell 0 or 1."""
    for number in range(0, 3 ** 5 * 8, step):
        digits = []
        for size in (3, 3, 3, 3, 3, 2, 2, 2):
            digits.append(number % size)
            number //= size
        a, b, c, d, e, x, y, z = digits
        yield machine_of(2, [[0, a, x], [b, c, y], [d, e, z]])
