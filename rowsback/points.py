"""Smooth and rough noughts of ends at points, by primes, and smooth ones lifted."""

from rowsback.backward import backward
from rowsback.bounds import MAX_POINTS
from rowsback.errors import TooGreat, Unfit
from rowsback.fitting import slim
from rowsback.lifts import lifted
from rowsback.polys import raised
from rowsback.rows import reckoned


def smooth(row, end, prime):
    """Return the noughts modulo the prime at which the rate by some input is no multiple of it."""
    return tuple([point for point, moving in _noughts(row, end, prime) if moving])


def rough(row, end, prime):
    """Return the noughts modulo the prime at which all rates are multiples of it."""
    return tuple([point for point, moving in _noughts(row, end, prime) if not moving])


def _noughts(row, end, prime):
    """Return pairs of all noughts modulo the prime, ascending, and of whether some rate is no multiple of it there."""
    _must_have_inputs(row)
    inputs, steps, ends = row
    if raised(prime, inputs) > MAX_POINTS:
        raise TooGreat(MAX_POINTS)
    alone = slim((inputs, steps, (ends[end],)))
    points = [()]
    for _ in range(inputs):
        points = [point + (number,) for point in points for number in range(prime)]
    values = _rests_at(alone, points, prime)[0]
    found = [point for point, value in zip(points, values) if value == 0]
    # With 1 as the weight of the one end its pulls are its rates.
    pulls = _rests_at(slim(backward(alone)), [point + (1,) for point in found], prime)
    return [(point, any([some[index] != 0 for some in pulls])) for index, point in enumerate(found)]


def _must_have_inputs(row):
    if row[0] == 0:
        raise Unfit()


def _rests_at(row, points, prime):
    """Return for each end the rests, by the prime, of its values at all the points.

    Step by step at all points at once: so each step is looked at just once.
    """
    def leaf(word, number):
        return [(point[number] if word == "in" else number) % prime for point in points]

    def joined(word, parts):
        if word == "neg":
            return [-one % prime for one in parts[0]]
        if word == "+":
            return [(one + other) % prime for one, other in zip(parts[0], parts[1])]
        if word == "-":
            return [(one - other) % prime for one, other in zip(parts[0], parts[1])]
        return [one * other % prime for one, other in zip(parts[0], parts[1])]

    reached = reckoned(row, leaf, joined)
    return [reached[end] for end in row[2]]


def smooth_count(row, end, prime, power):
    """Return how many noughts modulo prime ** power leave the rests of a smooth point by the prime."""
    # For each of them, and all numbers with these rests at the others, there is
    # just one number at an input by which the rate is no multiple of the prime.
    found = smooth(row, end, prime)
    return len(found) * raised(prime, (row[0] - 1) * (power - 1))


def lifted_point(row, end, prime, power, point, index):
    """Return the point with the one number for this input that makes it a nought modulo prime ** power."""
    _must_have_inputs(row)
    number = lifted(_row_along(row, point, index), end, prime, power, point[index])
    return point[:index] + (number,) + point[index + 1:]


def _row_along(row, point, index):
    """Return the row of this input alone, with the numbers of the point for all others."""
    steps = [_step_along(step, point, index) for step in row[1]]
    return (1, tuple(steps), row[2])


def _step_along(step, point, index):
    if step[0] != "in":
        return step
    return ("in", 0) if step[1] == index else ("set", point[step[1]])
