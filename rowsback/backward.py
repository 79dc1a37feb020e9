"""Backward rows, which tell the pulls of all inputs in one go."""

from rowsback.polys import weighed
from rowsback.rates import is_long_row_of, put, put_joined, rate
from rowsback.rows import degrees
from rowsback.sames import polys


def backward(row):
    """Return a backward row: its ends are the pulls of all inputs of the row."""
    inputs, steps, ends = row
    longer = list(steps)
    # A step of degree 0 has no rates: what pulls at it comes to no input.
    moving = [degree > 0 for degree in degrees(row)]
    pulls = [None] * len(steps)
    for index, end in enumerate(ends):
        if moving[end]:
            weight = put(longer, ("in", inputs + index))
            pulls[end] = put_joined(longer, "+", pulls[end], weight)
    pull_of_input = [None] * inputs
    for number in reversed(range(len(steps))):
        pull, step = pulls[number], steps[number]
        if pull is None:
            continue
        if step[0] == "in":
            pull_of_input[step[1]] = put_joined(longer, "+", pull_of_input[step[1]], pull)
        else:
            _pull_on(longer, step, pull, pulls, moving)
    if None in pull_of_input:
        nought = put(longer, ("set", 0))
        pull_of_input = [nought if number is None else number for number in pull_of_input]
    return (inputs + len(ends), tuple(longer), tuple(pull_of_input))


def _pull_on(longer, step, pull, pulls, moving):
    """Put the steps by which what pulls at a step pulls at those that stand in it."""
    for place, part in enumerate(step[1:]):
        if not moving[part]:
            continue
        amount = pull
        if step[0] == "*":
            amount = put(longer, ("*", pull, step[2 - place]))
        against = step[0] == "neg" or (step[0] == "-" and place == 1)
        pulls[part] = put_joined(longer, "-" if against else "+", pulls[part], amount)


def is_backward(row, value):
    """Return whether the value is a backward row of the row."""
    inputs, _, ends = row
    if not is_long_row_of(value, inputs + len(ends), inputs):
        return False
    reached = polys(row)
    found = polys(value)
    return found == tuple([weighed([rate(poly, index) for poly in reached]) for index in range(inputs)])
