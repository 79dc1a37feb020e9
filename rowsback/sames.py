"""The polynomials of the ends of rows, and whether two rows are the same."""

from rowsback.bounds import MAX_TERMS
from rowsback.errors import TooWide, Unfit
from rowsback.polys import constant, in_order, minus, plus, raised, scaled, times, unknown
from rowsback.rows import needed


def polys(row):
    """Return the polynomials of the ends."""
    inputs, steps, ends = row
    found = {}
    # Steps that no end needs may be as wide as they like, so they are left out.
    for number in needed(row):
        found[number] = _step_poly(inputs, steps[number], found)
        if len(found[number]) > MAX_TERMS:
            raise TooWide()
    return tuple([found[end] for end in ends])


def _step_poly(inputs, step, found):
    """Return the polynomial of a step, of those found for the steps that stand in it."""
    word = step[0]
    if word == "in":
        return unknown(inputs, step[1])
    if word == "set":
        return constant(inputs, step[1])
    if word == "neg":
        return scaled(found[step[1]], -1)
    one, other = found[step[1]], found[step[2]]
    if word == "+":
        return plus(one, other)
    if word == "-":
        return minus(one, other)
    return times(one, other)


def same(one, other):
    """Return whether the ends of both rows have the same polynomials."""
    here, there = _both_polys(one, other)
    return here == there


def parting(one, other):
    """Return a point at which the ends of both rows are unlike, or None."""
    here, there = _both_polys(one, other)
    return parted_at(here, there, one[0])


def _both_polys(one, other):
    if one[0] != other[0] or len(one[2]) != len(other[2]):
        raise Unfit()
    return polys(one), polys(other)


def parted_at(some, others, many):
    """Return integers for the unknowns at which the polynomials are not those others, or None."""
    for one, other in zip(some, others):
        rest = minus(one, other)
        if rest:
            return _no_nought(rest, many)
    return None


def _no_nought(poly, many):
    """Return integers for the unknowns at which the polynomial, not (), is not 0."""
    numbers = []
    for _ in range(many):
        number, rest = _first_filled(poly)
        numbers.append(number)
        poly = rest
    return tuple(numbers)


def _first_filled(poly):
    """Return the least integer from 0 on that leaves, as the first unknown, more than (), and what it leaves."""
    # Each integer that leaves () divides the polynomial once more, so they
    # are at most as many as its degree.
    number = 0
    rest = _filled(poly, number)
    while not rest:
        number = number + 1
        rest = _filled(poly, number)
    return number, rest


def _filled(poly, number):
    """Return the polynomial with the number as its first unknown, in the others."""
    factors = {}
    for powers, factor in poly:
        others = powers[1:]
        factors[others] = factors.get(others, 0) + factor * raised(number, powers[0])
    return in_order(factors)
