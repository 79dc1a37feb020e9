"""Noughts of ends of rows with one input, by powers of primes."""

from rowsback.polys import raised
from rowsback.single import factors_of, narrowed, noughts_by, rest_with, stripped, trimmed


def noughts(row, end, prime, power):
    """Return the widest whole lots, ascending."""
    return tuple(sorted(_lots(factors_of(row, end), prime, power)))


def _lots(factors, prime, power):
    """Return the widest whole lots of the polynomial with these factors."""
    modulus = raised(prime, power)
    rests = trimmed([factor % modulus for factor in factors])
    if not rests:
        return [(0, 0)]
    rests, shared = stripped(rests, prime)
    left = power - shared
    if _is_nought(rests, raised(prime, left)):
        return [(0, 0)]
    found = []
    for rest in noughts_by(rests, prime):
        inner = _lots(narrowed(rests, rest, prime), prime, left)
        found = found + [(rest + prime * far, depth + 1) for far, depth in inner]
    return found


def _is_nought(factors, modulus):
    """Return whether all integers are noughts modulo the modulus."""
    # A polynomial of which as many values in a row as it has factors are
    # multiples has multiples alone as its values, by their differences.
    for number in range(len(factors)):
        if rest_with(factors, number, modulus) != 0:
            return False
    return True


def nought_count(row, end, prime, power):
    """Return how many of the integers from 0 to prime ** power - 1 are noughts."""
    return sum([raised(prime, power - depth) for _, depth in noughts(row, end, prime, power)])


def nought_at(row, end, prime, power, number):
    """Return the one of the integers from 0 to prime ** power - 1 that is the nought with this number, or None."""
    whole = raised(prime, power)
    lots = [(rest, raised(prime, depth)) for rest, depth in noughts(row, end, prime, power)]
    if not 0 <= number < _count_below(lots, whole):
        return None
    low, high = 0, whole - 1
    while low < high:
        at = (low + high) // 2
        if _count_below(lots, at + 1) > number:
            high = at
        else:
            low = at + 1
    return low


def _count_below(lots, limit):
    """Return how many integers from 0 to below the limit are in the lots, pairs of a rest and what it is left by."""
    return sum([(limit - 1 - rest) // width + 1 for rest, width in lots if rest < limit])


def count_by(row, end, parts):
    """Return how many integers from 0 to below the product of all prime ** power are noughts modulo it."""
    # Called for the sake of Unfit(), also without parts.
    factors_of(row, end)
    count = 1
    for prime, power in parts:
        count = count * nought_count(row, end, prime, power)
    return count
