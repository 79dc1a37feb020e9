import unittest
from itertools import product

from helper import STEPS, MORE as WIDE, chain, full_row, random_point, random_row
from rowsback.errors import TooGreat, TooWide, Unfit
from rowsback.lifts import lifted
from rowsback.moduli import noughts
from rowsback.points import lifted_point, rough, smooth, smooth_count
from rowsback.rates import rates_at
from rowsback.rows import row_error, told
from rowsback.sames import polys

TIMES = (2, (("in", 0), ("in", 1), ("*", 0, 1)), (2,))
LINE = (1, (("in", 0),), (0,))
CIRCLE = (2, (("in", 0), ("in", 1), ("*", 0, 0), ("*", 1, 1), ("+", 2, 3), ("set", 1), ("-", 4, 5)), (6, 0))
FLAT = (2, (("set", 6), ("in", 1)), (0,))


def slow(row, end, prime):
    """Return the smooth and the rough points."""
    found = ([], [])
    for point in product(range(prime), repeat=row[0]):
        if told(row, point)[end] % prime == 0:
            found[all(number % prime == 0 for number in rates_at(row, point)[end])].append(point)
    return tuple(found[0]), tuple(found[1])


class SmoothTest(unittest.TestCase):

    def check(self, row, end, prime):
        found = (smooth(row, end, prime), rough(row, end, prime))
        self.assertEqual(found, slow(row, end, prime))
        self.assertEqual({type(some) for some in found} | {type(point) for some in found for point in some}, {tuple})
        self.assertEqual((smooth(row, end, prime), rough(row, end, prime)), found)
        return found

    def test_examples(self):
        self.assertEqual([smooth(TIMES, 0, 2), rough(TIMES, 0, 2), smooth_count(TIMES, 0, 2, 3), lifted_point(TIMES, 0, 3, 2, (4, 3), 1)],
                         [((0, 1), (1, 0)), ((0, 0),), 8, (4, 0)])

    def test_ends_that_hang_on_nothing(self):
        self.assertEqual([len(some) for some in self.check(FLAT, 0, 2)], [0, 4])
        self.assertEqual([len(some) for some in self.check(FLAT, 0, 3)], [0, 9])
        self.assertEqual(self.check(FLAT, 0, 5), ((), ()))
        nought = (1, (("in", 0), ("-", 0, 0)), (1,))
        self.assertEqual([len(some) for some in self.check(nought, 0, 997)], [0, 997])

    def test_one_input(self):
        self.assertEqual([self.check(LINE, 0, prime) for prime in (2, 997)], [(((0,),), ())] * 2)
        self.assertEqual(self.check((1, chain(2), (1,)), 0, 7), ((), ((0,),)))
        self.assertEqual(self.check((1, (("in", 0), ("set", 7), ("*", 0, 1)), (2,)), 0, 7)[0], ())
        high = (1, chain(64) + (("set", 1), ("-", 6, 7)), (8,))
        self.assertEqual(len(self.check(high, 0, 769)[0]), 64)

    def test_circles(self):
        for prime, many in ((3, 4), (5, 4), (7, 8), (11, 12), (13, 12)):
            found = self.check(CIRCLE, 0, prime)
            self.assertEqual([len(found[0]), found[1]], [many, ()])
        self.assertEqual(self.check(CIRCLE, 0, 2), ((), ((0, 1), (1, 0))))

    def test_random_rows(self):
        kinds = [0, 0]
        for seed in range(120):
            row = random_row(seed, 1 + seed % 4, 18, 2, most=9)
            for prime in (2, 3, 5):
                found = self.check(row, seed % 2, prime)
                kinds[0] += found[0] != ()
                kinds[1] += found[1] != ()
        self.assertGreater(min(kinds), 60)

    def test_steps_that_no_end_needs_and_great_numbers(self):
        row = (2, (("in", 0), ("set", 10 ** 20), ("*", 0, 1), ("in", 1), ("-", 2, 3), ("*", 4, 4), ("*", 5, 5)), (4, 5))
        for prime in (2, 3, 7, 11):
            self.check(row, 0, prime)
            self.check(row, 1, prime)

    def test_rates_that_fall_away_by_the_prime(self):
        # x * x * x + y modulo 3, and modulo 5.
        row = (2, (("in", 0), ("in", 1), ("*", 0, 0), ("*", 0, 2), ("set", 3), ("*", 4, 1), ("+", 3, 5)), (6,))
        self.assertEqual(self.check(row, 0, 3), ((), ((0, 0), (0, 1), (0, 2))))
        self.assertEqual(len(self.check(row, 0, 5)[0]), 5)

    def test_the_greatest_rows(self):
        row = full_row()
        self.assertIsNone(row_error(row))
        self.check(row, 7, 2)
        self.assertEqual(len(smooth(row, 0, 3)) + len(rough(row, 0, 3)), len([
            point for point in product(range(3), repeat=8) if told(row, point)[0] % 3 == 0]))

    def test_just_as_many_points_as_may_be(self):
        three = (3, (("in", 0), ("in", 1), ("in", 2), ("*", 0, 1), ("+", 3, 2)), (4,))
        self.assertEqual(len(smooth(TIMES, 0, 139)), 2 * 138)
        self.assertEqual(rough(TIMES, 0, 139), ((0, 0),))
        self.assertEqual([len(smooth(three, 0, 23)), len(rough(three, 0, 23))], [23 ** 2, 0])
        self.assertEqual(smooth_count(LINE, 0, 997, 60), 1)
        four = (4, (("in", 3),), (0,))
        self.assertEqual(len(smooth(four, 0, 11)), 11 ** 3)

    def test_too_great(self):
        for inputs, prime in ((2, 149), (3, 29), (4, 13), (5, 11), (8, 5), (6, 7), (2, 997)):
            self.assertGreater(prime ** inputs, 20000)
            row = (inputs, (("in", 0),), (0,))
            for call in (lambda: smooth(row, 0, prime), lambda: rough(row, 0, prime), lambda: smooth_count(row, 0, prime, 1),
                         lambda: smooth_count(row, 0, prime, 60)):
                with self.assertRaises(TooGreat) as caught:
                    call()
                self.assertEqual(caught.exception.limit, 20000)


class CountTest(unittest.TestCase):

    def test_by_trying_all(self):
        for seed in range(40):
            inputs = 1 + seed % 2
            row = random_row(seed, inputs, 12, 1, most=5)
            for prime, power in ((2, 1), (2, 3), (3, 2), (5, 1), (2, 4)):
                there = smooth(row, 0, prime)
                wanted = [point for point in product(range(prime ** power), repeat=inputs)
                          if told(row, point)[0] % prime ** power == 0 and tuple(k % prime for k in point) in there]
                self.assertEqual(smooth_count(row, 0, prime, power), len(wanted))

    def test_great_powers(self):
        self.assertEqual(smooth_count(TIMES, 0, 2, 60), 2 * 2 ** 59)
        self.assertEqual(smooth_count(CIRCLE, 0, 7, 60), 8 * 7 ** 59)
        three = (3, (("in", 0), ("in", 1), ("in", 2), ("*", 0, 1), ("+", 3, 2)), (4,))
        self.assertEqual(smooth_count(three, 0, 23, 60), 23 ** 120)
        self.assertEqual([smooth_count(FLAT, 0, 2, 9), smooth_count(FLAT, 0, 5, 9)], [0, 0])

    def test_one_input_beside_lots(self):
        for seed in range(40):
            row = random_row(seed, 1, 12, 1, most=6)
            for prime in (3, 5, 7):
                there = smooth(row, 0, prime)
                lots = [rest for rest, depth in noughts(row, 0, prime, 8) if (rest % prime,) in there and depth > 0]
                self.assertEqual(smooth_count(row, 0, prime, 8), len(lots))


class LiftedPointTest(unittest.TestCase):

    def check(self, row, end, prime, power, point, index):
        """Look that the point told is right, whether one or Unfit(); return it, None for Unfit()."""
        unfit = told(row, point)[end] % prime != 0 or rates_at(row, point)[end][index] % prime == 0
        if unfit:
            with self.assertRaises(Unfit):
                lifted_point(row, end, prime, power, point, index)
            return None
        found = lifted_point(row, end, prime, power, point, index)
        self.assertEqual([type(found), len(found), found[:index], found[index + 1:]],
                         [tuple, row[0], point[:index], point[index + 1:]])
        self.assertTrue(0 <= found[index] < prime ** power)
        self.assertEqual([(found[index] - point[index]) % prime, told(row, found)[end] % prime ** power], [0, 0])
        return found

    def test_points_below_0_and_great_ones(self):
        for point in ((4, 3), (-2, -9), (10 ** 60, 3 * 10 ** 60), (-5, 0)):
            self.assertEqual(self.check(TIMES, 0, 3, 2, point, 1), (point[0], 0))
        self.assertEqual(self.check(CIRCLE, 0, 5, 3, (-10 ** 20, 6), 1), (-10 ** 20, 1))
        self.assertEqual(self.check(CIRCLE, 0, 5, 60, (10 ** 20, -1), 1), (10 ** 20, self.check(CIRCLE, 0, 5, 60, (10 ** 20, 4), 1)[1]))

    def test_unfit(self):
        # No nought; the rate by this input a multiple, though that by the other one is none.
        self.assertIsNone(self.check(TIMES, 0, 3, 2, (4, 4), 1))
        self.assertIsNone(self.check(TIMES, 0, 3, 2, (4, 3), 0))
        self.assertIsNone(self.check(TIMES, 0, 3, 2, (3, 3), 0))
        self.assertIsNone(self.check(FLAT, 0, 3, 2, (0, 0), 1))

    def test_random_rows(self):
        done = 0
        for seed in range(150):
            many = 1 + seed % 4
            row = random_row(seed, many, 14, 2, most=8)
            prime = (2, 3, 5, 7)[seed % 4]
            for other in range(6):
                point = random_point(seed + other, many, 40)
                for index in range(many):
                    done += self.check(row, seed % 2, prime, 1 + seed % 6, point, index) is not None
        self.assertGreater(done, 100)

    def test_just_one(self):
        for seed in range(30):
            row = random_row(seed, 2, 12, 1, most=5)
            for point in product(range(3), repeat=2):
                found = self.check(row, 0, 3, 3, point, seed % 2)
                if found is not None:
                    right = [number for number in range(point[seed % 2], 27, 3)
                             if told(row, (point[0], number) if seed % 2 else (number, point[1]))[0] % 27 == 0]
                    self.assertEqual(right, [found[seed % 2]])

    def test_one_input_as_lifted(self):
        less = (1, (("in", 0), ("*", 0, 0), ("set", 1), ("-", 1, 2)), (3,))
        for nought in (2, -1, 1, 10 ** 30 + 1):
            self.assertEqual(self.check(less, 0, 3, 4, (nought,), 0), (lifted(less, 0, 3, 4, nought),))

    def test_all_inputs_of_a_smooth_point(self):
        for prime in (2, 3, 5):
            for row in (TIMES, CIRCLE):
                for point in smooth(row, 0, prime):
                    self.assertNotEqual([self.check(row, 0, prime, 9, point, index) for index in (0, 1)], [None, None])
                for point in rough(row, 0, prime):
                    self.assertEqual([self.check(row, 0, prime, 9, point, index) for index in (0, 1)], [None, None])


class AllTest(unittest.TestCase):

    def test_rows_without_inputs_are_unfit_ahead_of_all_else(self):
        row = (0, (("set", 4), ("set", 0)), (0, 1))
        for end in (0, 1):
            for call in (lambda: smooth(row, end, 2), lambda: rough(row, end, 997), lambda: smooth_count(row, end, 2, 60),
                         lambda: lifted_point(row, end, 2, 3, (), 0)):
                with self.assertRaises(Unfit):
                    call()

    def test_no_row_is_too_wide(self):
        row = (2, STEPS, (WIDE,))
        with self.assertRaises(TooWide):
            polys(row)
        for prime in (2, 3, 5):
            SmoothTest().check(row, 0, prime)
            self.assertEqual(smooth_count(row, 0, prime, 2), prime * len(smooth(row, 0, prime)))
            for point in smooth(row, 0, prime):
                done = [LiftedPointTest().check(row, 0, prime, 5, point, index) for index in (0, 1)]
                self.assertNotEqual(done, [None, None])

    def test_nothing_that_is_passed_is_changed(self):
        before = repr((TIMES, CIRCLE))
        for call in (lambda: smooth(CIRCLE, 0, 5), lambda: rough(TIMES, 0, 5), lambda: smooth_count(CIRCLE, 0, 5, 3),
                     lambda: lifted_point(TIMES, 0, 3, 2, (4, 3), 1)):
            self.assertEqual(call(), call())
        self.assertEqual(repr((TIMES, CIRCLE)), before)

    def test_arguments_by_name(self):
        self.assertEqual([smooth(prime=2, end=0, row=TIMES), rough(prime=2, end=0, row=TIMES), smooth_count(power=3, prime=2, end=0, row=TIMES)],
                         [((0, 1), (1, 0)), ((0, 0),), 8])
        self.assertEqual(lifted_point(index=1, point=(4, 3), power=2, prime=3, end=0, row=TIMES), (4, 0))


if __name__ == "__main__":
    unittest.main()
