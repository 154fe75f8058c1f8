"""Where two machines' sequences differ first."""

from digitseq.search import least_number


def first_difference(left, right):
    """The digits of the least number whose terms differ in two machines of one base.

    None if their sequences are the same.
    """
    def ways_of(pair):
        return list(zip(left.ways[pair[0]], right.ways[pair[1]]))

    def differs(pair):
        return left.tells[pair[0]] != right.tells[pair[1]]

    found = least_number((0, 0), ways_of, differs)
    if found is None:
        return None
    return found[1]
