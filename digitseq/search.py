"""The least number whose digits lead to what is looked for."""


def least_number(start, ways_of, wanted):
    """The first state that is wanted, and the digits of the least number that comes to it.

    None if no number comes to such a state. ways_of tells the states that one goes to from
    a state, digit by digit; start is to go to itself by 0.
    """
    # A state that was come to before needs no second look: what comes behind the greater
    # number comes behind the lesser one, too. So the numbers are gone through in their
    # order, each state with the least that comes to it.
    states = [start]
    known = {start: True}
    steps = [(0, 0)]
    at = 0
    while at < len(states):
        if wanted(states[at]):
            return states[at], digits_along(steps, at)
        for digit, way in enumerate(ways_of(states[at])):
            if way not in known:
                known[way] = True
                states.append(way)
                steps.append((at, digit))
        at += 1
    return None


def digits_along(steps, at):
    """The digits on the way to the state; of 0 there is one, 0.

    steps tells for each state which one is before it on its way, and by what digit.
    """
    if at == 0:
        return [0]
    digits = []
    while at > 0:
        digits.append(steps[at][1])
        at = steps[at][0]
    digits.reverse()
    return digits
