"""Polynomials with whole factors, as ascending tuples of pairs (powers, factor)."""


def unknown(many, index):
    """Return the polynomial, in so many unknowns, of the one with this index."""
    return ((tuple([1 if place == index else 0 for place in range(many)]), 1),)


def constant(many, number):
    """Return the polynomial, in so many unknowns, of the integer."""
    return (((0,) * many, number),) if number else ()


def in_order(factors):
    """Return the polynomial of a dict that has for some powers their factors, perhaps 0."""
    return tuple([(powers, factors[powers]) for powers in sorted(factors) if factors[powers]])


def plus(one, other):
    """Return the polynomial of the sum."""
    factors = {powers: factor for powers, factor in one}
    for powers, factor in other:
        factors[powers] = factors.get(powers, 0) + factor
    return in_order(factors)


def minus(one, other):
    """Return the polynomial of one less other."""
    return plus(one, scaled(other, -1))


def times(one, other):
    """Return the polynomial of the product."""
    factors = {}
    for powers, factor in one:
        for more, by in other:
            both = tuple([low + high for low, high in zip(powers, more)])
            factors[both] = factors.get(both, 0) + factor * by
    return in_order(factors)


def scaled(poly, number):
    """Return the polynomial of the product with the integer."""
    return tuple([(powers, factor * number) for powers, factor in poly]) if number else ()


def raised(number, power):
    """Return the number to the power, an integer from 0 on."""
    whole = 1
    for _ in range(power):
        whole = whole * number
    return whole


def value_of(poly, numbers):
    """Return the value that comes with the integers as the unknowns."""
    total = 0
    for powers, factor in poly:
        for power, number in zip(powers, numbers):
            factor = factor * raised(number, power)
        total = total + factor
    return total


def widened(poly, more):
    """Return the same polynomial in so many more unknowns, which stand behind the others."""
    return tuple([(powers + (0,) * more, factor) for powers, factor in poly])


def weighed(some):
    """Return the sum of the polynomials, each times a further unknown of its own behind the others."""
    factors = {}
    for index, poly in enumerate(some):
        own = (0,) * index + (1,) + (0,) * (len(some) - index - 1)
        for powers, factor in poly:
            factors[powers + own] = factor
    return in_order(factors)
