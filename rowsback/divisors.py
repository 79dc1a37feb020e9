"""Divisors of integers."""

from math import gcd


def common_divisor(numbers):
    """Return the greatest common divisor of the integers, 0 if all of them are 0."""
    divisor = 0
    for number in numbers:
        divisor = gcd(divisor, number)
    return divisor


def depth_in(number, prime):
    """Return how often the number, not 0, can be divided by the prime."""
    depth = 0
    while number % prime == 0:
        number = number // prime
        depth = depth + 1
    return depth


def inverse(number, prime):
    """Return the integer from 0 to below the prime whose product with the number, no multiple of it, leaves 1."""
    ahead, now = prime, number % prime
    by_ahead, by_now = 0, 1
    while now > 1:
        part = ahead // now
        ahead, now = now, ahead - part * now
        by_ahead, by_now = by_now, by_ahead - part * by_now
    return by_now % prime
