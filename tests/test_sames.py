import unittest

from helper import BEYOND, FULL, JUST, MORE, NARROW, NOT_NEEDED, STEPS, TAKEN_AWAY, chain, put
from helper import random_point, random_row
from rowsback.errors import TooWide, Unfit
from rowsback.polys import value_of
from rowsback.rows import is_point, long_error, row_error, told
from rowsback.sames import parting, polys, same

S = (1, (("in", 0), ("set", 2), ("*", 0, 1)), (2,))
T = (1, (("in", 0), ("in", 0), ("*", 0, 1), ("neg", 0)), (2, 2))
TWICE = (1, (("in", 0), ("+", 0, 0)), (1,))


def small_noughts(inputs):
    """Return a row whose end is 0 at all points with an integer from -9 to 9 at some input, but not everywhere."""
    steps = [("in", index) for index in range(inputs)]
    whole = put(steps, "set", 1)
    for index in range(inputs):
        for number in range(-9, 10):
            whole = put(steps, "*", whole, put(steps, "-", index, put(steps, "set", number)))
    return (inputs, tuple(steps), (whole,))


class PolysTest(unittest.TestCase):

    def test_examples(self):
        self.assertEqual(polys(S), ((((1,), 2),),))
        self.assertEqual(polys(T), ((((2,), 1),), (((2,), 1),)))

    def test_each_word(self):
        row = (2, (("in", 1), ("set", 5), ("neg", 0), ("+", 0, 1), ("-", 1, 0), ("*", 3, 4), ("set", 0)),
               (0, 1, 2, 3, 4, 5, 6))
        self.assertEqual(polys(row), (
            (((0, 1), 1),), (((0, 0), 5),), (((0, 1), -1),), (((0, 0), 5), ((0, 1), 1)),
            (((0, 0), 5), ((0, 1), -1)), (((0, 0), 25), ((0, 2), -1)), (),
        ))

    def test_noughts(self):
        row = (1, (("in", 0), ("-", 0, 0), ("*", 0, 1), ("set", 0), ("*", 3, 0), ("neg", 3)), (1, 2, 3, 4, 5))
        self.assertEqual(polys(row), ((),) * 5)

    def test_rows_without_inputs(self):
        self.assertEqual(polys((0, (("set", 4), ("*", 0, 0), ("-", 1, 1)), (1, 2, 1))), ((((), 16),), (), (((), 16),)))

    def test_just_as_many_pairs_as_may_be(self):
        self.assertEqual(len(polys(JUST)[0]), 200)

    def test_one_pair_more(self):
        with self.assertRaises(TooWide):
            polys(BEYOND)

    def test_pairs_that_later_steps_take_away(self):
        with self.assertRaises(TooWide):
            polys(TAKEN_AWAY)
        nought = (2, STEPS + (("set", 0), ("*", len(STEPS), MORE)), (len(STEPS) + 1,))
        self.assertIsNone(row_error(nought))
        with self.assertRaises(TooWide):
            polys(nought)

    def test_wide_steps_that_no_end_needs(self):
        self.assertEqual([len(poly) for poly in polys(NOT_NEEDED)], [1, 200])
        wider = (2, STEPS + (("*", FULL, MORE),), (NARROW,))
        self.assertIsNone(row_error(wider))
        self.assertEqual(polys(wider), ((((8, 0), 1),),))

    def test_random_rows(self):
        judged = 0
        for seed in range(150):
            row = random_row(seed, seed % 5, 25, 3, most=9)
            try:
                found = polys(row)
            except TooWide:
                continue
            judged += 1
            for poly in found:
                self.assertEqual(list(poly), sorted(poly))
                self.assertTrue(all(factor and len(powers) == row[0] for powers, factor in poly))
            for count in range(3):
                point = random_point(10 * seed + count, row[0], 10 ** 20)
                self.assertEqual(tuple(value_of(poly, point) for poly in found), told(row, point))
        self.assertGreater(judged, 100)

    def test_long_rows(self):
        steps = tuple(("in", k) for k in range(20)) + tuple(("+", k, k + 1) for k in range(380))
        row = (20, steps, (399,) * 20)
        self.assertIsNone(long_error(row))
        found = polys(row)
        self.assertEqual(len(found), 20)
        self.assertEqual(len(found[0]), 20)
        self.assertEqual(value_of(found[0], tuple(range(20))), told(row, tuple(range(20)))[0])
        self.assertTrue(same(row, row))
        self.assertIsNone(parting(row, row))

    def test_powers_of_just_the_size(self):
        self.assertEqual(polys((1, chain(64), (6,))), ((((64,), 1),),))


class SameTest(unittest.TestCase):

    def test_examples(self):
        self.assertIs(same(S, TWICE), True)
        self.assertIsNone(parting(S, TWICE))
        for judge in (same, parting):
            with self.assertRaises(Unfit):
                judge(S, T)

    def test_unlike_rows(self):
        self.assert_parted((1, (("in", 0),), (0,)), (1, (("in", 0), ("neg", 0)), (1,)))
        self.assert_parted((1, (("in", 0),), (0,)), (1, (("in", 0), ("*", 0, 0)), (1,)))
        self.assert_parted((2, (("in", 0), ("in", 1)), (0, 1)), (2, (("in", 0), ("in", 1)), (0, 0)))
        self.assert_parted((2, (("in", 0), ("in", 1)), (1, 0)), (2, (("in", 0), ("in", 1)), (0, 0)))
        self.assert_parted((0, (("set", 3),), (0,)), (0, (("set", 4),), (0,)))
        self.assert_parted((3, (("set", 3),), (0,)), (3, (("set", 4),), (0,)))

    def assert_parted(self, one, other):
        self.assertIs(same(one, other), False)
        self.assertIs(same(other, one), False)
        for first, second in ((one, other), (other, one)):
            point = parting(first, second)
            self.assertTrue(is_point(one, point), point)
            self.assertNotEqual(told(one, point), told(other, point))

    def test_rows_without_inputs(self):
        self.assertIsNone(parting((0, (("set", 3), ("neg", 0)), (1,)), (0, (("set", -3),), (0,))))
        self.assertEqual(parting((0, (("set", 3),), (0,)), (0, (("set", -3),), (0,))), ())

    def test_rows_that_agree_at_all_small_points(self):
        for inputs in (1, 2, 3):
            row = small_noughts(inputs)
            self.assertIsNone(long_error(row))
            if inputs == 3:
                with self.assertRaises(TooWide):
                    parting(row, (inputs, (("set", 0),), (0,)))
                continue
            nought = (inputs, (("set", 0),), (0,))
            self.assertEqual(told(row, (9,) * inputs), (0,))
            self.assertEqual(told(row, (-9,) + (20,) * (inputs - 1)), (0,))
            self.assert_parted(row, nought)

    def test_rows_that_agree_where_two_inputs_do(self):
        steps = [("in", 0), ("in", 1), ("-", 0, 1)]
        end = put(steps, "*", put(steps, "*", 2, 2), 2)
        self.assert_parted((2, tuple(steps), (end,)), (2, (("set", 0),), (0,)))

    def test_as_many_noughts_as_may_be(self):
        steps = [("in", 0)]
        whole = 0
        for number in range(1, 32):
            low = put(steps, "-", 0, put(steps, "set", number))
            whole = put(steps, "*", whole, low)
            high = put(steps, "+", 0, put(steps, "set", number))
            whole = put(steps, "*", whole, high)
        row = (1, tuple(steps), (whole,))
        self.assertIsNone(long_error(row))
        self.assert_parted(row, (1, (("set", 0),), (0,)))

    def test_unfit_ahead_of_too_wide(self):
        for judge in (same, parting):
            for other in ((1, (("in", 0),), (0,)), (2, (("in", 0),), (0, 0))):
                for pair in ((TAKEN_AWAY, other), (other, TAKEN_AWAY)):
                    with self.assertRaises(Unfit):
                        judge(*pair)

    def test_too_wide_of_either(self):
        narrow = (2, (("in", 0),), (0,))
        for judge in (same, parting):
            for pair in ((TAKEN_AWAY, narrow), (narrow, TAKEN_AWAY), (TAKEN_AWAY, TAKEN_AWAY)):
                with self.assertRaises(TooWide):
                    judge(*pair)

    def test_just_as_many_pairs_as_may_be(self):
        self.assertTrue(same(JUST, JUST))
        self.assert_parted(JUST, (2, STEPS + (("neg", FULL),), (len(STEPS),)))

    def test_random_rows(self):
        parted = 0
        for seed in range(80):
            one, other = random_row(seed, seed % 4, 8, 2, most=6), random_row(seed + 500, seed % 4, 8, 2, most=6)
            point = parting(one, other)
            self.assertIs(same(one, other), point is None)
            if point is not None:
                parted += 1
                self.assertTrue(is_point(one, point))
                self.assertNotEqual(told(one, point), told(other, point))
            self.assertIsNone(parting(one, one))
            self.assertEqual(parting(one, other), point)
        self.assertGreater(parted, 40)

    def test_arguments_by_name(self):
        self.assertEqual(polys(row=S), polys(S))
        self.assertTrue(same(one=S, other=TWICE))
        self.assertIsNone(parting(other=TWICE, one=S))


if __name__ == "__main__":
    unittest.main()
