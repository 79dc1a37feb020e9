"""Sweeps back along a row at a point: pulls, what must be kept for them, and rates of rates."""

from rowsback.errors import Unfit
from rowsback.rates import forward
from rowsback.rows import needed, values


def swept(row, point, weights):
    """Return the pulls of all inputs at the point."""
    return _pulls(row, values(row, point), weights)


def kept(row):
    """Return the numbers of the steps whose values a sweep back needs, ascending."""
    steps = row[1]
    used = {}
    for number in needed(row):
        if steps[number][0] == "*":
            for part in steps[number][1:]:
                used[part] = True
    return tuple(sorted(used))


def swept_by(row, some, weights):
    """Return the pulls of all inputs, by the values of just the steps that kept tells."""
    if tuple([number for number, _ in some]) != kept(row):
        raise Unfit()
    return _pulls(row, {number: worth for number, worth in some}, weights)


def _pulls(row, worth, weights):
    """Return the pulls of all inputs; worth has at least the values of the steps that are kept."""
    inputs, steps, ends = row
    pulls = {number: 0 for number in needed(row)}
    for end, weight in zip(ends, weights):
        pulls[end] = pulls[end] + weight
    pull_of_input = [0] * inputs
    for number in needed(row)[::-1]:
        step, pull = steps[number], pulls[number]
        if step[0] == "in":
            pull_of_input[step[1]] = pull_of_input[step[1]] + pull
        else:
            for part, amount in _shares(step, pull, worth):
                pulls[part] = pulls[part] + amount
    return tuple(pull_of_input)


def _shares(step, pull, worth):
    """Return the pairs (part, amount): how much what pulls at the step pulls at those that stand in it."""
    word = step[0]
    if word == "set":
        return ()
    if word == "neg":
        return ((step[1], -pull),)
    _, one, other = step
    if word == "*":
        return ((one, pull * worth[other]), (other, pull * worth[one]))
    return ((one, pull), (other, pull if word == "+" else -pull))


def seconds_at(row, end, point):
    """Return for each input the rates at the point, by all inputs, of the end's rate by this input."""
    inputs, steps, ends = row
    longer = forward((inputs, steps, (ends[end],)))
    rows = []
    for index in range(inputs):
        direction = tuple([1 if place == index else 0 for place in range(inputs)])
        # The pulls of the row's own inputs at the rate in this direction are its rates by them.
        rows.append(swept(longer, point + direction, (0, 1))[:inputs])
    return tuple(rows)
