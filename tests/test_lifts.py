import random
import unittest
from fractions import Fraction
from math import gcd

from helper import HUGE, ODD, bent, chain, lists_of, random_row, row_of_roots, row_with
from rowsback.errors import TooGreat, Unfit
from rowsback.lifts import bare, endless, endless_holds, lifted
from rowsback.moduli import nought_count, noughts
from rowsback.polys import value_of
from rowsback.rates import rate, rates_at
from rowsback.rows import row_error, told
from rowsback.sames import polys

LESS = (1, (("in", 0), ("*", 0, 0), ("set", 1), ("-", 1, 2)), (3,))
LINE = (1, (("in", 0),), (0,))
NOUGHT = (1, (("in", 0), ("-", 0, 0)), (1,))
MORE = (1, (("in", 0), ("*", 0, 0), ("set", 1), ("+", 1, 2), ("*", 3, 3)), (3, 4))
PRIMES = (2, 3, 5, 7, 11, 13, 997)


def row_of_factors(*some):
    """Return a row whose end is the product of the polynomials with these factors."""
    steps = [("in", 0), ("set", 1)]
    tops = []
    for factors in some:
        tops.append(1)
        for place, factor in enumerate(factors[::-1]):
            steps += [("set", factor)]
            if place:
                steps += [("*", tops[-1], 0), ("+", len(steps), len(steps) - 1)]
            tops[-1] = len(steps) - 1
    top = 1
    for other in tops:
        steps.append(("*", top, other))
        top = len(steps) - 1
    return (1, tuple(steps), (top,))


def dense(poly):
    """Return the factors of a polynomial in one unknown, from that of the power 0 on."""
    known = {powers[0]: factor for powers, factor in poly}
    return [known.get(power, 0) for power in range(1 + max(known, default=-1))]


def divided(one, other):
    """Return the quotient and what is left, by fractions."""
    left = [Fraction(factor) for factor in one]
    quotient = []
    while len(left) >= len(other):
        by = left[-1] / other[-1]
        quotient.insert(0, by)
        for place, factor in enumerate(other):
            left[len(left) - len(other) + place] -= by * factor
        left.pop()
    while left and left[-1] == 0:
        left.pop()
    return quotient, left


def slow_bare(poly):
    one, other = dense(poly), [power * factor for power, factor in enumerate(dense(poly))][1:]
    while other:
        one, other = other, divided(one, other)[1]
    found = divided(dense(poly), one)[0]
    bottom = 1
    for part in found:
        bottom = bottom * part.denominator // gcd(bottom, part.denominator)
    whole = [int(part * bottom) for part in found]
    shared = gcd(*whole) if whole[-1] > 0 else -gcd(*whole)
    return tuple(((power,), factor // shared) for power, factor in enumerate(whole) if factor)


def depth_by(number, prime):
    """Return how often the prime divides the number, a great integer for 0."""
    depth = 0
    while number and number % prime == 0:
        number //= prime
        depth += 1
    return depth if number else 10 ** 9


class LiftedTest(unittest.TestCase):

    def check(self, row, end, prime, power, nought):
        """Look that what is told is right, whether a nought or Unfit(); return it, None for Unfit()."""
        unfit = told(row, (nought,))[end] % prime != 0 or rates_at(row, (nought,))[end][0] % prime == 0
        if unfit:
            with self.assertRaises(Unfit):
                lifted(row, end, prime, power, nought)
            return None
        found = lifted(row, end, prime, power, nought)
        self.assertIs(type(found), int)
        self.assertTrue(0 <= found < prime ** power)
        self.assertEqual([(found - nought) % prime, told(row, (found,))[end] % prime ** power], [0, 0])
        if prime ** power < 3000:
            right = [number for number in range(nought % prime, prime ** power, prime)
                     if told(row, (number,))[end] % prime ** power == 0]
            self.assertEqual(right, [found])
        return found

    def test_examples(self):
        self.assertEqual(lifted(LESS, 0, 3, 4, 2), 80)

    def test_noughts_below_0_and_great_ones(self):
        self.assertEqual([self.check(LESS, 0, 3, 4, number) for number in (2, -1, -10, 5, 3 * 10 ** 40 + 2)], [80] * 5)
        self.assertEqual([self.check(LESS, 0, 3, 4, number) for number in (1, -2, 10 ** 60)], [1, 1, 1])
        self.assertEqual([self.check(LINE, 0, 2, 60, number) for number in (0, -4, 10 ** 20)], [0, 0, 0])

    def test_unfit(self):
        self.assertEqual([self.check(LESS, 0, 3, 4, number) for number in (0, 3, -3)], [None] * 3)
        self.assertEqual([self.check(LESS, 0, 2, 4, number) for number in (1, 3, 0)], [None] * 3)
        self.assertEqual([self.check(NOUGHT, 0, 5, 2, 0), self.check((1, (("set", 5),), (0,)), 0, 5, 1, 3)], [None] * 2)
        self.assertEqual([self.check((1, chain(2), (1,)), 0, 7, 3, 0), self.check(row_of_roots((2, 2)), 0, 7, 3, 2)], [None] * 2)

    def test_the_power_one(self):
        self.assertEqual([self.check(LESS, 0, 7, 1, number) for number in (1, 6, -1, 8)], [1, 6, 6, 1])

    def test_the_greatest_powers(self):
        for prime in PRIMES[1:]:
            self.assertEqual(self.check(LESS, 0, prime, 60, -1), prime ** 60 - 1)
        root = self.check(row_with((1, 0, 1)), 0, 5, 60, 2)
        self.assertEqual((root * root + 1) % 5 ** 60, 0)
        high = (1, chain(64) + (("set", 1), ("-", 6, 7)), (8,))
        self.check(high, 0, 769, 60, 1)
        self.check(high, 0, 769, 60, 19)

    def test_random_rows(self):
        done = 0
        for seed in range(200):
            row = random_row(seed, 1, 14, 2, most=9)
            prime = PRIMES[seed % 4]
            for nought in range(-2, prime):
                done += self.check(row, seed % 2, prime, 1 + seed % 5, nought) is not None
        self.assertGreater(done, 100)

    def test_each_simple_nought_is_one_of_the_noughts(self):
        for seed in range(30):
            row = row_with([random.Random(seed + place).randint(-9, 9) for place in range(4)])
            for prime in (3, 5, 7):
                there = noughts(row, 0, prime, 6)
                for number in range(prime):
                    found = self.check(row, 0, prime, 6, number)
                    if found is not None:
                        self.assertIn((found, 6), there)
                        self.assertEqual([rest for rest, depth in there if (rest - number) % prime == 0], [found])


class BareTest(unittest.TestCase):

    def check(self, row, end=0):
        found = bare(row, end)
        self.assertEqual(found, slow_bare(polys(row)[end]))
        self.assertEqual([gcd(*[factor for _, factor in found]), found[-1][1] > 0], [1, True])
        self.assertEqual([powers for powers, _ in found], sorted(powers for powers, _ in found))
        return found

    def test_examples(self):
        self.assertEqual(bare(MORE, 1), (((0,), 1), ((2,), 1)))

    def test_ends_that_hang_on_nothing(self):
        for number in (1, -1, 5, -10 ** 20):
            self.assertEqual(self.check((1, (("set", number),), (0,))), (((0,), 1),))

    def test_factors_of_common_divisors(self):
        self.assertEqual(self.check(row_with((6, 4))), (((0,), 3), ((1,), 2)))
        self.assertEqual(self.check(row_with((6, -4))), (((0,), -3), ((1,), 2)))
        self.assertEqual(self.check(row_with((-12, 0, -8))), (((0,), 3), ((2,), 2)))
        self.assertEqual(self.check(row_with((0, 10 ** 20))), (((1,), 1),))

    def test_noughts_of_several_depths(self):
        self.assertEqual(self.check(row_of_roots((0, 0, 0))), (((1,), 1),))
        self.assertEqual(self.check(row_of_roots((1, 1, 1, 2, 2, 3))), (((0,), -6), ((1,), 11), ((2,), -6), ((3,), 1)))
        self.assertEqual(self.check(row_of_factors((1, 0, 1), (1, 0, 1), (-2, 3), (-2, 3), (-2, 3), (7,))),
                         (((0,), -2), ((1,), 3), ((2,), -2), ((3,), 3)))
        self.assertEqual(self.check((1, chain(16), (4,))), (((1,), 1),))

    def test_random_products(self):
        for seed in range(80):
            rng = random.Random(seed)
            some = [tuple(rng.randint(-4, 4) for _ in range(rng.randint(1, 3))) for _ in range(3)]
            some = [one for one in some if any(one)]
            row = row_of_factors(*(some + some[:2]))
            if len(row[1]) <= 60 and polys(row)[0]:
                self.check(row)

    def test_powers_of_just_as_many_as_may_be(self):
        for roots in (range(16), (3,) * 16, (0, 5) * 8):
            row = row_of_roots(tuple(roots))
            self.assertEqual(row_error(row), None)
            self.assertEqual(len(self.check(row)), len(dense(self.check(row))) - (0 in roots))
        big = 10 ** 20
        self.check(row_of_roots(tuple(big - k for k in range(16))))
        self.check(row_with([big - 7 * k for k in range(17)]))

    def test_powers_of_one_more(self):
        for row in (row_of_roots(range(17)), (1, chain(64), (6,)), row_of_roots((0,) * 17)):
            for call in (lambda: bare(row, 0), lambda: endless(row, 0, 2), lambda: endless_holds(row, 0, 2, None)):
                with self.assertRaises(TooGreat) as caught:
                    call()
                self.assertEqual(caught.exception.limit, 16)

    def test_degrees_of_steps_do_not_count(self):
        row = (1, chain(32) + (("-", 5, 5), ("+", 6, 1)), (7,))
        self.assertEqual(self.check(row), (((1,), 1),))


class EndlessTest(unittest.TestCase):

    def check(self, row, end, prime):
        found = endless(row, end, prime)
        self.assertIs(endless_holds(row, end, prime, found), True)
        self.assertEqual(endless(row, end, prime), found)
        poly = bare(row, end)
        if found[0] == "lifts":
            self.check_lifts(poly, prime, found)
        else:
            word, power = found
            self.assertEqual([word, type(power), len(found)], ["none", int, 2])
            self.assertGreater(power, 0)
            self.assertIs(endless_holds(row, end, prime, ("none", power - 1)), False)
            if prime ** power < 20000:
                depths = [depth_by(value_of(poly, (number,)), prime) for number in range(prime ** power)]
                self.assertEqual(max(depths), power - 1)
        return found

    def check_lifts(self, poly, prime, found):
        word, nought, depth = found
        self.assertEqual([word, type(nought), type(depth), len(found)], ["lifts", int, int, 3])
        self.assertTrue(nought >= 0 and depth >= 0)
        self.assertGreaterEqual(depth_by(value_of(poly, (nought,)), prime), 2 * depth + 1)
        self.assertEqual(depth_by(value_of(rate(poly, 0), (nought,)), prime), depth)

    def test_examples(self):
        self.assertEqual([endless(MORE, 0, 2), endless_holds(MORE, 1, 5, ("lifts", 2, 0)), endless(MORE, 1, 3)],
                         [("none", 2), True, ("none", 1)])

    def test_ends_that_hang_on_nothing(self):
        for number in (1, 8, -10 ** 20):
            for prime in (2, 5):
                self.assertEqual(self.check((1, (("set", number),), (0,)), 0, prime), ("none", 1))

    def test_numbers_that_are_noughts_themselves(self):
        for roots in ((0,), (7,), (1, 2, 3), (0, 8, 16), (1, 1 + 2 ** 30), (-1,), (0, 3 ** 20, 3 ** 21)):
            for prime in PRIMES:
                self.assertEqual(self.check(row_of_roots(roots), 0, prime)[0], "lifts")

    def test_small_polynomials(self):
        words = {}
        for seed in range(300):
            rng = random.Random(seed)
            row = row_with([rng.randint(-9, 9) for _ in range(2 + seed % 4)] + [1])
            word = self.check(row, 0, PRIMES[seed % 5])
            kind = (word[0], min(3, word[1] if word[0] == "none" else word[2]))
            words[kind] = words.get(kind, 0) + 1
        for kind in (("none", 1), ("none", 2), ("none", 3), ("lifts", 0), ("lifts", 1), ("lifts", 2)):
            self.assertGreater(words[kind], 1)

    def test_least_powers_above_one(self):
        self.assertEqual([self.check(row_with((4 ** k, 0, 1)), 0, 2) for k in range(5)], [("none", 2 * k + 2) for k in range(5)])
        self.assertEqual([self.check(row_with((3 ** k, 0, 1)), 0, 3) for k in (1, 2, 3)], [("none", 2), ("none", 3), ("none", 4)])
        self.assertEqual(self.check(row_with((2, 0, 0, 0, 1)), 0, 2), ("none", 2))
        self.assertEqual(self.check(row_of_factors((1, 1, 1), (2, 0, 1)), 0, 2), ("none", 2))
        # By 2 all values are multiples, though there are no noughts for all powers.
        self.assertEqual(self.check(row_with((2, 1, 1)), 0, 2)[0], "lifts")
        self.assertEqual(self.check(row_with((4, 2, 2, 0, 2)), 0, 2), endless(row_with((2, 1, 1, 0, 1)), 0, 2))

    def test_noughts_that_only_a_greater_power_tells(self):
        # x * x - 17 by 2: the rate is a multiple of 2 everywhere.
        word, nought, depth = self.check(row_with((-17, 0, 1)), 0, 2)
        self.assertEqual([word, depth], ["lifts", 1])
        self.assertEqual((nought * nought - 17) % 8, 0)
        self.assertEqual([self.check(row_with((-17 * 4 ** k, 0, 1)), 0, 2)[2] for k in range(4)], [1, 2, 3, 4])
        self.assertEqual([self.check(row_with((-number, 0, 1)), 0, 2) for number in (3, 5, 7, 12, 20)],
                         [("none", 2), ("none", 3), ("none", 2), ("none", 4), ("none", 5)])
        self.assertEqual(self.check(row_with((-9 * 7, 0, 1)), 0, 3)[2], 1)

    def test_powers_above_the_greatest_level(self):
        steps = chain(2) + (("set", -2 ** 66),)
        for _ in range(5):
            steps += (("*", len(steps) - 1, len(steps) - 1),)
        square = steps + (("set", 3), ("*", len(steps) - 1, len(steps)), ("-", 1, len(steps) + 1))
        row = (1, square, (len(square) - 1,))
        self.assertIsNone(row_error(row))
        self.assertEqual(self.check(row, 0, 2), ("none", 66 * 32 + 2))
        seven = square[:-3] + (("set", 17), square[-2], square[-1])
        word, nought, depth = self.check((1, seven, (len(seven) - 1,)), 0, 2)
        self.assertEqual([word, depth], ["lifts", 66 * 16 + 1])
        self.assertEqual(self.check((1, seven, (len(seven) - 1,)), 0, 3), ("none", 1))

    def test_the_greatest_degree(self):
        for seed in range(6):
            rng = random.Random(seed)
            row = row_with([rng.randint(-10 ** 20, 10 ** 20) for _ in range(17)])
            for prime in (2, 3, 997):
                self.check(row, 0, prime)
        roots = tuple(2 ** 60 * k for k in range(16))
        self.assertEqual(self.check(row_of_roots(roots), 0, 2)[0], "lifts")

    def test_noughts_for_each_power_or_none_for_some(self):
        for seed in range(60):
            rng = random.Random(seed)
            row = row_with([rng.randint(-6, 6) for _ in range(3)] + [1])
            for prime in (2, 3, 5):
                found = endless(row, 0, prime)
                counts = [nought_count(row, 0, prime, power) for power in (1, 2, 4, 8, 20, 60)]
                self.assertEqual(min(counts) > 0, found[0] == "lifts", (row, prime, found, counts))

    def test_whole_lots_are_no_lifts(self):
        self.assertEqual(self.check((1, (("set", 2 ** 60),), (0,)), 0, 2), ("none", 1))
        self.assertEqual(nought_count((1, (("set", 2 ** 60),), (0,)), 0, 2, 60), 2 ** 60)
        self.assertEqual(self.check(row_with((8, 0, 8)), 0, 2), ("none", 2))

    def test_by_the_bare_polynomial(self):
        for row in (row_of_factors((-2, 0, 1), (-2, 0, 1)), row_of_factors((-2, 0, 1), (7,)), row_of_factors((-2, 0, 1), (-7,))):
            for prime in PRIMES[:5]:
                self.assertEqual(self.check(row, 0, prime), endless(row_with((-2, 0, 1)), 0, prime))


class EndlessHoldsTest(unittest.TestCase):

    def test_powers_greater_and_lesser(self):
        row = row_with((-5, 0, 1))
        self.assertEqual([endless_holds(row, 0, 2, ("none", power)) for power in (-10 ** 30, -1, 0, 1, 2, 3, 4, 61, 10 ** 39)],
                         [False] * 5 + [True] * 4)
        self.assertIs(endless_holds(row, 0, 2, ("none", HUGE)), True)
        self.assertEqual([endless_holds(row, 0, 11, ("none", power)) for power in (1, 2, 3, 10 ** 39)], [False] * 4)

    def test_lifts(self):
        row = row_with((-17, 0, 1))
        for nought, depth, right in ((1, 1, True), (3, 1, True), (9, 1, True), (7, 1, True), (5, 1, True), (1, 0, False),
                                     (1, 2, False), (1, -1, False), (0, 0, False), (2, 2, False), (-1, 1, False), (-7, 1, False),
                                     (1, 10 ** 39, False), (True, 1, False), (1, True, False), (8 * 10 ** 30 + 1, 1, True),
                                     (HUGE + 1, 1, True), (1, HUGE, False), (1, -HUGE, False), ("1", 1, False), (1, None, False)):
            self.assertIs(endless_holds(row, 0, 2, ("lifts", nought, depth)), right, (nought, depth))

    def test_noughts_of_the_rate(self):
        # The rate of x * x - 2 is 0 at 0.
        row = row_with((-2, 0, 1))
        self.assertEqual([endless_holds(row, 0, 2, ("lifts", 0, depth)) for depth in range(4)], [False] * 4)
        self.assertEqual([endless_holds((1, (("set", 8),), (0,)), 0, 2, ("lifts", 0, depth)) for depth in range(3)], [False] * 3)

    def test_depths_above_nought(self):
        # (x - 8) * x at 8: the rate is 8 there.
        row = row_of_roots((0, 8))
        self.assertEqual([endless_holds(row, 0, 2, ("lifts", 8, depth)) for depth in (0, 1, 2, 3, 4)],
                         [False, False, False, True, False])
        self.assertEqual([endless_holds(row, 0, 2, ("lifts", number, 3)) for number in (0, 16, 4, 128, 64, 24)],
                         [True, True, False, True, True, True])

    def test_words(self):
        self.assertEqual([endless_holds(MORE, 0, 2, value) for value in (
            ("none", 2), ("lifts", 2), ("none", 2, 0), ("none",), ("None", 2), (None, 2), ["none", 2], "none", ("none", "2"),
            ("none", None), ("none", (2,)), ("none", True))], [True] + [False] * 11)
        self.assertEqual([endless_holds(MORE, 0, 5, value) for value in (
            ("lifts", 2, 0), ("lifts", 3, 0), ("none", 2, 0), ("lifts", 1, 0), ("lifts", 2, 0, 0), ["lifts", 2, 0])],
            [True, True, False, False, False, False])

    def test_bent_values(self):
        for row, prime in ((row_with((-17, 0, 1)), 2), (row_with((-5, 0, 1)), 2), (row_of_roots((0, 8)), 2), (LINE, 3)):
            poly = bare(row, 0)
            for value in bent(endless(row, 0, prime)):
                found = endless_holds(row, 0, prime, value)
                self.assertIs(type(found), bool)
                if found and value[0] == "lifts":
                    EndlessTest().check_lifts(poly, prime, value)
                elif found:
                    self.assertEqual([value[0], value[1] >= endless(row, 0, prime)[1]], ["none", True])
            self.assertIs(endless_holds(row, 0, prime, lists_of(endless(row, 0, prime))), False)

    def test_odd_values(self):
        for value in ODD:
            self.assertIs(endless_holds(LESS, 0, 2, value), False)
            for other in ODD:
                self.assertIs(endless_holds(LESS, 0, 2, (value, other)), False)
                self.assertIs(endless_holds(MORE, 0, 3, (value, other, 0)), False)


class AllTest(unittest.TestCase):

    def test_rows_with_no_input_or_two_are_unfit_ahead_of_all_else(self):
        high = (2, chain(64) + (("in", 1), ("-", 7, 7)), (6, 8))
        for row in ((0, (("set", 4), ("set", 0)), (0, 1)), (2, (("in", 0), ("in", 1)), (0, 1)), high):
            for end in (0, 1):
                for call in (lambda: lifted(row, end, 2, 3, 0), lambda: bare(row, end), lambda: endless(row, end, 2),
                             lambda: endless_holds(row, end, 2, None)):
                    with self.assertRaises(Unfit):
                        call()

    def test_the_end_that_is_nought_is_unfit(self):
        row = (1, chain(64) + (("-", 6, 6),), (7, 6))
        for one in (NOUGHT, row, (1, (("set", 0),), (0,))):
            for call in (lambda: bare(one, 0), lambda: endless(one, 0, 2), lambda: endless_holds(one, 0, 2, ("none", 1))):
                with self.assertRaises(Unfit):
                    call()

    def test_rows_of_all_kinds(self):
        for seed in range(60):
            row = random_row(seed, 1, 20, 3, most=16)
            for end in range(3):
                if polys(row)[end] == ():
                    continue
                BareTest().check(row, end)
                EndlessTest().check(row, end, PRIMES[seed % 6])

    def test_nothing_that_is_passed_is_changed_and_equal_calls_tell_the_same(self):
        before = repr((LESS, MORE))
        value = ["lifts", [2], 0]
        endless_holds(MORE, 0, 5, value)
        for call in (lambda: lifted(LESS, 0, 3, 4, 2), lambda: bare(MORE, 1), lambda: endless(MORE, 1, 5),
                     lambda: endless_holds(MORE, 1, 5, ("lifts", 2, 0))):
            self.assertEqual(call(), call())
        self.assertEqual([repr((LESS, MORE)), value], [before, ["lifts", [2], 0]])

    def test_arguments_by_name(self):
        self.assertEqual([lifted(nought=2, power=4, prime=3, end=0, row=LESS), bare(end=1, row=MORE), endless(prime=3, end=1, row=MORE),
                          endless_holds(value=("none", 1), prime=3, end=1, row=MORE)], [80, bare(MORE, 1), ("none", 1), True])


if __name__ == "__main__":
    unittest.main()
