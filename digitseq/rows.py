"""Where a row of terms stands first in a machine's sequence."""

from digitseq.search import least_number


def first_row(machine, row):
    """The digits of the least number m so that the row is the terms of m, m + 1, and so on.

    None if the row stands nowhere; it has one number at least.
    """
    # The terms of the numbers with q ahead of the last few digits are q's block. The row
    # begins in the block of some q, and is short enough to end in the next one. So what
    # must be known of q is the state that it comes to, and the one that q + 1 comes to.
    length = block_digits(machine.base, len(row) - 1)
    blocks = blocks_behind(machine, length)
    heads = [head_offsets(block, row) for block in blocks]
    tails = [tail_offsets(block, row) for block in blocks]

    def ways_of(pair):
        ways = machine.ways[pair[0]]
        return list(zip(ways, ways[1:] + [machine.ways[pair[1]][0]]))

    def offsets(pair):
        return [offset for offset in heads[pair[0]] if offset in tails[pair[1]]]

    found = least_number((0, machine.ways[0][1]), ways_of, offsets)
    if found is None:
        return None
    ahead = found[1]
    behind = last_digits(offsets(found[0])[0], machine.base, length)
    return without_zeros_ahead(ahead + behind)


def block_digits(base, least):
    """How many digits behind q give a block of that many numbers at the least."""
    length = 0
    size = 1
    while size < least:
        length += 1
        size *= base
    return length


def blocks_behind(machine, length):
    """For each state the terms told from there by each row of that many digits."""
    blocks = [[tells] for tells in machine.tells]
    for level in range(length):
        blocks = [joined([blocks[way] for way in ways]) for ways in machine.ways]
    return blocks


def joined(lists):
    """One list of what is in the lists."""
    whole = []
    for part in lists:
        whole.extend(part)
    return whole


def head_offsets(block, row):
    """Where in the block the row may begin, the first first."""
    size = len(block)
    return [offset for offset in range(size) if block[offset:offset + len(row)] == row[:size - offset]]


def tail_offsets(block, row):
    """Where in the block ahead the row may begin, so that it goes on in this one."""
    size = len(block)
    offsets = {}
    for offset in range(size):
        rest = row[size - offset:]
        if block[:len(rest)] == rest:
            offsets[offset] = True
    return offsets


def last_digits(number, base, length):
    """The number's last digits, that many, the highest first."""
    digits = []
    for place in range(length):
        digits.append(number % base)
        number = number // base
    digits.reverse()
    return digits


def without_zeros_ahead(digits):
    """The digits from the first on that isn't 0; the last one if there's none."""
    at = 0
    while at < len(digits) - 1 and digits[at] == 0:
        at += 1
    return digits[at:]
