"""Polynomials in one unknown, as lists of their factors from that of the power 0 on, the last one not being 0."""

from rowsback.divisors import common_divisor, depth_in, inverse
from rowsback.errors import Unfit
from rowsback.polys import raised
from rowsback.sames import polys


def factors_of(row, end):
    """Return the factors of the end of a row with one input; raises Unfit() for other rows."""
    if row[0] != 1:
        raise Unfit()
    poly = polys((1, row[1], (row[2][end],)))[0]
    known = {powers[0]: factor for powers, factor in poly}
    return [known.get(power, 0) for power in range(1 + max(known, default=-1))]


def trimmed(factors):
    """Return the factors without the noughts behind the last one that is not 0."""
    many = len(factors)
    while many > 0 and factors[many - 1] == 0:
        many = many - 1
    return factors[:many]


def rate_of(factors):
    """Return the factors of the rate."""
    return [power * factor for power, factor in enumerate(factors)][1:]


def value_with(factors, number):
    """Return the value with the number as the unknown."""
    value = 0
    for factor in factors[::-1]:
        value = value * number + factor
    return value


def rest_with(factors, number, modulus):
    """Return the rest, by the modulus, of the value with the number as the unknown."""
    rest = 0
    for factor in factors[::-1]:
        rest = (rest * number + factor) % modulus
    return rest


def noughts_by(factors, prime):
    """Return all rests by the prime that are noughts modulo it; some factor is no multiple of it."""
    rests = trimmed([factor % prime for factor in factors])
    if len(rests) == 2:
        return [-rests[0] * inverse(rests[1], prime) % prime]
    return [number for number in range(prime) if rest_with(rests, number, prime) == 0]


def stripped(factors, prime):
    """Return the factors, not all 0, divided by the prime as often as all of them can be, and how often that is."""
    depth = depth_in(common_divisor(factors), prime)
    divisor = raised(prime, depth)
    return [factor // divisor for factor in factors], depth


def narrowed(factors, rest, prime):
    """Return the factors with the rest, and the prime times the unknown, in the place of the unknown."""
    held = list(factors)
    last = len(held) - 1
    # Each round puts one factor less right: the factors of the powers of the unknown less the rest.
    for start in range(last):
        for power in reversed(range(start, last)):
            held[power] = held[power] + rest * held[power + 1]
    return [factor * raised(prime, power) for power, factor in enumerate(held)]
