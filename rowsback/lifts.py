"""Noughts lifted to powers of primes, and whether there are noughts for all powers."""

from rowsback.bounds import MAX_BARE
from rowsback.divisors import common_divisor, depth_in, inverse
from rowsback.errors import TooGreat, Unfit
from rowsback.kinds import is_integer, is_tuple_of
from rowsback.polys import raised
from rowsback.single import factors_of, narrowed, noughts_by, rate_of, rest_with, stripped, trimmed
from rowsback.single import value_with


def lifted(row, end, prime, power, nought):
    """Return the one nought modulo prime ** power that leaves the rest of the nought by the prime."""
    factors = factors_of(row, end)
    if rest_with(factors, nought, prime) != 0 or rest_with(rate_of(factors), nought, prime) == 0:
        raise Unfit()
    return _lifted_nought(factors, prime, power, nought)


def _lifted_nought(factors, prime, power, nought):
    back = inverse(rest_with(rate_of(factors), nought, prime), prime)
    found = nought % prime
    modulus = prime
    for _ in range(power - 1):
        modulus = modulus * prime
        found = (found - rest_with(factors, found, modulus) * back) % modulus
    return found


def bare(row, end):
    """Return the polynomial with the same complex noughts as that of the end, each once."""
    return tuple([((power,), factor) for power, factor in enumerate(_bare_factors(row, end)) if factor != 0])


def _bare_factors(row, end):
    factors = factors_of(row, end)
    if not factors:
        raise Unfit()
    if len(factors) - 1 > MAX_BARE:
        raise TooGreat(MAX_BARE)
    whole = _coprime(factors)
    # What a polynomial and its rate have in common has each nought once less.
    one, other = whole, _coprime(rate_of(whole))
    while other:
        one, other = other, _coprime(_divided(one, other)[1])
    return _coprime(_divided(whole, one)[0])


def _coprime(factors):
    """Return the factors without a common divisor above 1, the last one above 0; without any there are none."""
    if not factors:
        return []
    divisor = common_divisor(factors)
    if factors[-1] < 0:
        divisor = -divisor
    return [factor // divisor for factor in factors]


def _divided(one, other):
    """Return the factors of a quotient and of what is left, of some whole multiple of one by other."""
    quotient, left = [], list(one)
    while len(left) >= len(other):
        by = left[-1]
        quotient = [by] + [factor * other[-1] for factor in quotient]
        left = [factor * other[-1] for factor in left]
        ahead = len(left) - len(other)
        left = left[:ahead] + [factor - by * part for factor, part in zip(left[ahead:], other)]
        left.pop()
    return quotient, trimmed(left)


def endless(row, end, prime):
    """Return ("lifts", nought, depth) if there are noughts for all powers, otherwise ("none", power)."""
    greatest = 0
    # Items (rest, depth, shared, factors): with the rest and prime ** depth times
    # the unknown in its place, the bare polynomial is prime ** shared times that
    # with the factors, of which some one is no multiple of the prime.
    waiting = [(0, 0, 0, _bare_factors(row, end))]
    while waiting:
        rest, depth, shared, factors = waiting.pop()
        greatest = max(greatest, shared)
        width = raised(prime, depth)
        for near in noughts_by(factors, prime):
            if rest_with(rate_of(factors), near, prime) != 0:
                far = _lifted_nought(factors, prime, max(1, shared - 2 * depth + 1), near)
                return ("lifts", rest + width * far, shared - depth)
            inner, more = stripped(narrowed(factors, near, prime), prime)
            waiting.append((rest + width * near, depth + 1, shared + more, inner))
    return ("none", greatest + 1)


def endless_holds(row, end, prime, value):
    """Return whether the value is one of those that endless may tell, or such with a greater power."""
    factors = _bare_factors(row, end)
    if is_tuple_of(value, 3):
        word, nought, depth = value
        if word != "lifts" or not is_integer(nought) or not is_integer(depth) or nought < 0:
            return False
        return _lifts(factors, prime, nought, depth)
    if is_tuple_of(value, 2):
        word, power = value
        return word == "none" and is_integer(power) and _none_with(endless(row, end, prime), power)
    return False


def _none_with(found, power):
    """Return whether what endless tells is ("none", least) with a power of at most this one as the least."""
    return found[0] == "none" and found[1] <= power


def _lifts(factors, prime, nought, depth):
    """Return whether from this nought there are noughts for all powers, by this depth of the rate."""
    by = value_with(rate_of(factors), nought)
    # The depth is looked at first: powers to any number that is passed would be too great.
    if by == 0 or depth_in(by, prime) != depth:
        return False
    return value_with(factors, nought) % raised(prime, 2 * depth + 1) == 0
