import random
import unittest

from helper import chain, random_row, row_of_roots, row_with
from rowsback.errors import Unfit
from rowsback.moduli import count_by, nought_at, nought_count, noughts
from rowsback.rows import told

LESS = (1, (("in", 0), ("*", 0, 0), ("set", 1), ("-", 1, 2)), (3,))
LINE = (1, (("in", 0),), (0,))
EVEN = (1, (("in", 0), ("*", 0, 0), ("+", 1, 0)), (2,))
NOUGHT = (1, (("in", 0), ("-", 0, 0)), (1,))
POWERS = ((2, 1), (2, 2), (2, 3), (2, 6), (2, 9), (3, 1), (3, 2), (3, 4), (3, 6), (5, 1), (5, 3), (7, 2), (11, 2), (13, 1))


def slow_values(row, end, whole):
    return [told(row, (number,))[end] % whole for number in range(whole)]


def slow_noughts(values, prime, power):
    """Return the widest whole lots, of the values at all rests by prime ** power."""
    whole = {}
    for depth in range(power + 1):
        for rest in range(prime ** depth):
            whole[rest, depth] = not any(values[rest::prime ** depth])
    return tuple(sorted((rest, depth) for rest, depth in whole if whole[rest, depth]
                        and (depth == 0 or not whole[rest % prime ** (depth - 1), depth - 1])))


class NoughtsTest(unittest.TestCase):

    def check(self, row, end, prime, power):
        """Look that the lots, and all that is told by them, are right; return the lots."""
        whole = prime ** power
        values = slow_values(row, end, whole)
        there = [number for number in range(whole) if values[number] == 0]
        found = noughts(row, end, prime, power)
        self.assertEqual(found, slow_noughts(values, prime, power))
        self.assertEqual(sorted(number for rest, depth in found for number in range(rest, whole, prime ** depth)), there)
        self.assertEqual(nought_count(row, end, prime, power), len(there))
        for number in list(range(min(len(there), 12))) + [len(there) - 1, len(there) // 2]:
            if 0 <= number < len(there):
                self.assertEqual(nought_at(row, end, prime, power, number), there[number])
        for number in (-1, len(there), len(there) + 1, -10 ** 40, 10 ** 40):
            self.assertIsNone(nought_at(row, end, prime, power, number))
        self.assertEqual({type(found)} | {type(lot) for lot in found}, {tuple})
        return found

    def test_examples(self):
        self.assertEqual([noughts(LESS, 0, 2, 3), noughts(LESS, 0, 2, 4), noughts(LESS, 0, 3, 2)],
                         [((1, 1),), ((1, 3), (7, 3)), ((1, 2), (8, 2))])
        self.assertEqual([nought_count(LESS, 0, 2, 4), count_by(LESS, 0, ((2, 3), (3, 1), (5, 1)))], [4, 16])
        self.assertEqual([nought_at(LESS, 0, 2, 4, 2), nought_at(LESS, 0, 2, 4, 4)], [9, None])
        self.assertEqual([noughts(LINE, 0, 5, 2), noughts((1, (("set", 25),), (0,)), 0, 5, 2)], [((0, 2),), ((0, 0),)])
        self.assertEqual(noughts(EVEN, 0, 2, 1), ((0, 0),))

    def test_whole_by_values_though_the_factors_do_not_tell_it(self):
        self.assertEqual([self.check(EVEN, 0, 2, power) for power in (1, 2)], [((0, 0),), ((0, 2), (3, 2))])
        for prime in (2, 3, 5, 7):
            roots = row_of_roots(range(prime))
            self.assertEqual(self.check(roots, 0, prime, 1), ((0, 0),))
            self.check(roots, 0, prime, 2)
            self.check(row_of_roots(tuple(range(prime)) * 2), 0, prime, 2)
        # x * (x - 1) * (x - 2) * (x - 3) is a multiple of 24 everywhere.
        four = row_of_roots(range(4))
        self.assertEqual([self.check(four, 0, 2, 3), self.check(four, 0, 3, 1)], [((0, 0),)] * 2)
        self.assertNotEqual(self.check(four, 0, 2, 4), ((0, 0),))
        self.assertEqual(self.check(row_with((0, 4, 4)), 0, 2, 3), ((0, 0),))
        self.assertEqual(self.check(row_of_roots(range(8)), 0, 2, 7), ((0, 0),))

    def test_whole_lots_within_others_that_are_not(self):
        # (x - 1) * x * (x + 1) * x: by 4 the even numbers are whole, but by 8 only at a greater depth.
        row = row_of_roots((1, 0, -1, 0))
        for power in range(1, 8):
            self.check(row, 0, 2, power)

    def test_small_polynomials(self):
        kinds = {}
        for seed in range(150):
            rng = random.Random(seed)
            row = row_with([rng.choice((-9, -4, -3, -2, -1, 0, 1, 2, 3, 6, 12, 25)) for _ in range(1 + seed % 6)])
            prime, power = POWERS[seed % len(POWERS)]
            found = self.check(row, 0, prime, power)
            for _, depth in found:
                kinds[depth] = kinds.get(depth, 0) + 1
        self.assertGreater(len(kinds), 5)

    def test_random_rows_with_several_ends(self):
        for seed in range(60):
            row = random_row(seed, 1, 14, 3, most=7)
            prime, power = POWERS[(seed * 5) % len(POWERS)]
            self.check(row, seed % 3, prime, power)

    def test_products_of_roots(self):
        for seed in range(60):
            rng = random.Random(seed)
            roots = [rng.choice((0, 1, 2, 3, 4, 8, 9, 16, 27, 81, -1, -7, 125)) for _ in range(1 + seed % 5)]
            prime, power = POWERS[(seed * 3) % len(POWERS)]
            self.check(row_of_roots(roots), 0, prime, power)

    def test_ends_without_an_input(self):
        for number, wanted in ((0, ((0, 0),)), (1, ()), (8, ((0, 0),)), (4, ()), (-8, ((0, 0),)), (24, ((0, 0),))):
            row = (1, (("set", number),), (0,))
            self.assertEqual(self.check(row, 0, 2, 3), wanted)
            self.assertEqual(nought_count(row, 0, 2, 3), 8 if wanted else 0)

    def test_the_end_that_is_nought_everywhere(self):
        for prime, power in ((2, 1), (997, 60), (3, 5)):
            self.assertEqual([noughts(NOUGHT, 0, prime, power), nought_count(NOUGHT, 0, prime, power)],
                             [((0, 0),), prime ** power])
            self.assertEqual(nought_at(NOUGHT, 0, prime, power, prime ** power - 1), prime ** power - 1)
            self.assertIsNone(nought_at(NOUGHT, 0, prime, power, prime ** power))

    def test_the_greatest_powers(self):
        self.assertEqual([noughts(LINE, 0, 997, 60), nought_count(LINE, 0, 997, 60)], [((0, 60),), 1])
        square = (1, chain(2), (1,))
        self.assertEqual([noughts(square, 0, 2, 60), noughts(square, 0, 2, 59)], [((0, 30),), ((0, 30),)])
        self.assertEqual([nought_count(square, 0, 2, 59), nought_at(square, 0, 2, 59, 7)], [2 ** 29, 7 * 2 ** 30])
        high = (1, chain(64), (6,))
        self.assertEqual([noughts(high, 0, 997, 60), noughts(high, 0, 2, 60)], [((0, 1),), ((0, 1),)])
        self.assertEqual(nought_at(high, 0, 997, 60, 997 ** 59 - 1), 997 ** 60 - 997)
        roots = noughts(LESS, 0, 2, 60)
        self.assertEqual(roots, ((1, 59), (2 ** 59 - 1, 59)))
        self.assertEqual([nought_at(LESS, 0, 2, 60, number) for number in range(5)],
                         [1, 2 ** 59 - 1, 2 ** 59 + 1, 2 ** 60 - 1, None])
        self.assertEqual(noughts((1, (("set", 10 ** 20),), (0,)), 0, 5, 20), ((0, 0),))
        self.assertEqual(noughts((1, (("set", 10 ** 20),), (0,)), 0, 5, 21), ())

    def test_many_noughts_at_the_greatest_power(self):
        # x ** 64 - 1 has 64 noughts modulo each power of 769.
        row = (1, chain(64) + (("set", 1), ("-", 6, 7)), (8,))
        found = noughts(row, 0, 769, 60)
        self.assertEqual([len(found), {depth for _, depth in found}, nought_count(row, 0, 769, 60)], [64, {60}, 64])
        for rest, _ in found:
            self.assertEqual(pow(rest, 64, 769 ** 60), 1)
        self.assertEqual([nought_at(row, 0, 769, 60, number) for number in (0, 40, 63, 64)],
                         [found[0][0], found[40][0], found[63][0], None])

    def test_great_factors_and_steps_that_no_end_needs(self):
        big = 10 ** 20
        row = (1, (("in", 0), ("set", big), ("*", 0, 1), ("set", -big + 1), ("+", 2, 3), ("*", 4, 4), ("in", 0)), (5, 4))
        for end in (0, 1):
            self.check(row, end, 3, 5)
            self.check(row, end, 2, 8)

    def test_ends_that_are_told_apart(self):
        row = (1, (("in", 0), ("set", 1), ("-", 0, 1), ("*", 0, 0)), (0, 2, 3, 0))
        self.assertEqual([noughts(row, end, 3, 2) for end in range(4)], [((0, 2),), ((1, 2),), ((0, 1),), ((0, 2),)])


class CountByTest(unittest.TestCase):

    def test_by_trying_all(self):
        for seed in range(40):
            row = random_row(seed, 1, 12, 2, most=5)
            for parts in ((), ((2, 1),), ((2, 2), (3, 1)), ((2, 1), (3, 2), (5, 1)), ((3, 1), (7, 1)), ((2, 3), (11, 1))):
                whole = 1
                for prime, power in parts:
                    whole *= prime ** power
                self.assertEqual(count_by(row, seed % 2, parts), slow_values(row, seed % 2, whole).count(0))

    def test_no_parts_and_six(self):
        self.assertEqual([count_by(LINE, 0, ()), count_by(NOUGHT, 0, ()), count_by((1, (("set", 1),), (0,)), 0, ())], [1] * 3)
        six = ((2, 60), (3, 60), (5, 1), (7, 9), (991, 2), (997, 60))
        self.assertEqual([count_by(LINE, 0, six), count_by((1, (("set", 1),), (0,)), 0, six)], [1, 0])
        whole = 1
        for prime, power in six:
            whole *= prime ** power
        self.assertEqual([count_by(NOUGHT, 0, six), count_by(LESS, 0, six)], [whole, 4 * 2 ** 5])


class AllTest(unittest.TestCase):

    def test_rows_with_no_input_or_two_are_unfit(self):
        wide = (2, (("in", 0), ("in", 1)), (0, 1))
        for row in ((0, (("set", 4),), (0,)), wide, random_row(3, 8, 60, 8)):
            for call in (lambda: noughts(row, 0, 2, 3), lambda: nought_count(row, 0, 2, 3), lambda: nought_at(row, 0, 2, 3, 0),
                         lambda: nought_at(row, 0, 2, 3, -1), lambda: count_by(row, 0, ((2, 3),)), lambda: count_by(row, 0, ())):
                with self.assertRaises(Unfit):
                    call()

    def test_nothing_that_is_passed_is_changed_and_equal_calls_tell_the_same(self):
        parts = ((2, 3), (3, 1))
        before = repr((LESS, parts))
        for call in (lambda: noughts(LESS, 0, 2, 5), lambda: nought_count(LESS, 0, 2, 5), lambda: nought_at(LESS, 0, 2, 5, 3),
                     lambda: count_by(LESS, 0, parts)):
            self.assertEqual(call(), call())
        self.assertEqual(repr((LESS, parts)), before)

    def test_arguments_by_name(self):
        self.assertEqual(noughts(power=3, prime=2, end=0, row=LESS), ((1, 1),))
        self.assertEqual([nought_count(power=4, prime=2, end=0, row=LESS), nought_at(number=2, power=4, prime=2, end=0, row=LESS),
                          count_by(parts=((2, 3),), end=0, row=LESS)], [4, 9, 4])


if __name__ == "__main__":
    unittest.main()
