import unittest

from helper import JUST, TAKEN_AWAY, chain, full_row, random_point, random_row
from rowsback.backward import backward
from rowsback.errors import Unfit
from rowsback.fitting import beside, fed, renamed, slim
from rowsback.polys import value_of
from rowsback.rates import forward, rates_at, rates_fed, second
from rowsback.rows import long_error, needed, told, values
from rowsback.sweeps import kept, seconds_at, swept, swept_by

Q = (2, (("in", 0), ("in", 1), ("*", 0, 1), ("+", 2, 0)), (3, 1))


def pulls(row, point, weights):
    """Reckon the pulls by the rates of all ends, one by one."""
    rates = rates_at(row, point)
    return tuple(sum(k * some[index] for k, some in zip(weights, rates)) for index in range(row[0]))


def some_of(row, point):
    reached = values(row, point)
    return tuple((number, reached[number]) for number in kept(row))


class SweptTest(unittest.TestCase):

    def check(self, row, point, weights):
        found = swept(row, point, weights)
        self.assertIs(type(found), tuple)
        self.assertEqual(found, pulls(row, point, weights))
        self.assertEqual(swept_by(row, some_of(row, point), weights), found)
        return found

    def test_examples(self):
        self.assertEqual(swept(Q, (2, 3), (1, 0)), (4, 2))
        self.assertEqual(swept(Q, (2, 3), (5, -1)), (20, 9))

    def test_each_word(self):
        for step in (("in", 1), ("set", 4), ("neg", 0), ("+", 0, 1), ("-", 0, 1), ("*", 0, 1), ("*", 1, 1), ("-", 0, 0),
                     ("+", 0, 0), ("+", 2, 0), ("-", 2, 0), ("-", 0, 2), ("*", 2, 0), ("*", 0, 2), ("*", 2, 2)):
            for ends in ((3,), (3, 3), (3, 0, 3), (2, 3)):
                row = (2, (("in", 0), ("in", 1), ("set", 7), step), ends)
                self.check(row, (5, -3), (2, -11, 13)[:len(ends)])

    def test_weights_of_nought(self):
        self.assertEqual(self.check(Q, (2, 3), (0, 0)), (0, 0))
        self.assertEqual(self.check(Q, (2, 3), (0, 7)), (0, 7))

    def test_an_end_that_stands_twice_has_two_weights(self):
        self.assertEqual(self.check((1, (("in", 0), ("*", 0, 0)), (1, 1, 0)), (5,), (2, 3, 100)), (150,))

    def test_without_inputs(self):
        self.assertEqual(self.check((0, (("set", 3), ("*", 0, 0)), (1, 0)), (), (4, 5)), ())

    def test_inputs_on_which_nothing_hangs(self):
        self.assertEqual(self.check((3, (("in", 1), ("in", 1), ("set", 2), ("+", 0, 1)), (3, 2)), (1, 2, 3), (4, 5)),
                         (0, 8, 0))

    def test_random_rows(self):
        for seed in range(60):
            row = random_row(seed, seed % 9, 60, 8)
            self.check(row, random_point(seed, row[0], 10 ** 20), random_point(seed + 1, 8, 10 ** 30))

    def test_long_rows(self):
        for seed in range(10):
            row = random_row(seed, 20, 400, 20)
            self.assertIsNone(long_error(row))
            self.check(row, random_point(seed, 20, 10 ** 20), random_point(seed + 1, 20, 10 ** 20))

    def test_rows_of_any_width(self):
        for row in (JUST, TAKEN_AWAY, (1, chain(64), (6, 0)), full_row()):
            self.check(row, random_point(3, row[0], 10 ** 20), random_point(4, len(row[2]), 10 ** 20))

    def test_backward_rows_tell_the_same(self):
        for seed in range(20):
            row = random_row(seed, 1 + seed % 8, 40, 4)
            point, weights = random_point(seed, row[0], 10 ** 9), random_point(seed, 4, 10 ** 9)
            self.assertEqual(told(backward(row), point + weights), swept(row, point, weights))


class KeptTest(unittest.TestCase):

    def test_examples(self):
        self.assertEqual(kept(Q), (0, 1))

    def test_sets_in_products(self):
        self.assertEqual(kept((1, (("in", 0), ("set", 2), ("*", 1, 0)), (2,))), (0, 1))
        self.assertEqual(kept((0, (("set", 2), ("set", 3), ("neg", 1), ("*", 1, 1)), (3, 0))), (1,))

    def test_products_that_no_end_needs(self):
        row = (2, (("in", 0), ("in", 1), ("*", 0, 1), ("*", 2, 2), ("+", 2, 0), ("*", 3, 0)), (4,))
        self.assertEqual(kept(row), (0, 1))
        self.assertEqual(kept((2, row[1], (1, 0))), ())
        self.assertEqual(kept((2, row[1], (3,))), (0, 1, 2))

    def test_a_product_that_is_used_in_sums_alone(self):
        self.assertEqual(kept((1, (("in", 0), ("+", 0, 0), ("*", 1, 1), ("neg", 2), ("-", 3, 2)), (4,))), (1,))

    def test_no_product(self):
        self.assertEqual(kept((1, (("in", 0), ("+", 0, 0), ("neg", 1)), (2, 1))), ())

    def test_as_many_as_may_be(self):
        row = (1, (("in", 0),) + tuple(("*", k // 2, 0) for k in range(399)), tuple(range(380, 400)))
        self.assertIsNone(long_error(row))
        wanted = {part for number in needed(row) if row[1][number][0] == "*" for part in row[1][number][1:]}
        self.assertEqual(kept(row), tuple(sorted(wanted)))
        self.assertEqual(kept((1, (("set", 1),) * 300 + tuple(("*", k, k) for k in range(100)), (399, 305))), (5, 99))


class SweptByTest(unittest.TestCase):

    def test_examples(self):
        self.assertEqual(swept_by(Q, ((0, 2), (1, 3)), (1, 0)), (4, 2))
        with self.assertRaises(Unfit):
            swept_by(Q, ((0, 2),), (1, 0))

    def test_other_numbers(self):
        for some in ((), ((1, 3),), ((0, 2), (1, 3), (2, 6)), ((0, 2), (2, 3)), ((0, 2), (3, 3)), ((-1, 0), (0, 2), (1, 3)),
                     ((0, 2), (1, 3), (77, 6)), ((0, 1), (0, 2), (1, 3)), ((0, 2), (1, 3), (1, 4))):
            with self.assertRaises(Unfit):
                swept_by(Q, some, (1, 0))
            with self.assertRaises(Unfit):
                swept_by(Q, some, (0, 0))

    def test_nothing_kept(self):
        row = (2, (("in", 0), ("in", 1), ("-", 0, 1)), (2, 2))
        self.assertEqual(swept_by(row, (), (3, 4)), (7, -7))
        with self.assertRaises(Unfit):
            swept_by(row, ((0, 1),), (3, 4))

    def test_great_values(self):
        row = (1, (("in", 0), ("*", 0, 0), ("*", 1, 1)), (2,))
        self.assertEqual(swept_by(row, ((0, 10 ** 20), (1, 10 ** 40)), (1,)), (4 * 10 ** 60,))

    def test_random_rows_with_one_number_less_or_more(self):
        for seed in range(20):
            row = random_row(seed, 3, 30, 3)
            some = some_of(row, (2, 3, 5))
            for place in range(len(some)):
                with self.assertRaises(Unfit):
                    swept_by(row, some[:place] + some[place + 1:], (1, 1, 1))
            for number in range(30):
                if number not in kept(row):
                    with self.assertRaises(Unfit):
                        swept_by(row, tuple(sorted(some + ((number, 1),))), (1, 1, 1))


class SecondsAtTest(unittest.TestCase):

    def check(self, row, point):
        for end in range(len(row[2])):
            found = seconds_at(row, end, point)
            self.assertEqual([len(some) for some in found], [row[0]] * row[0])
            for one in range(row[0]):
                for other in range(row[0]):
                    self.assertEqual(found[one][other], value_of(second(row, end, one, other), point))
            self.assertIs(type(found), tuple)
            self.assertEqual([type(some) for some in found], [tuple] * row[0])

    def test_examples(self):
        self.assertEqual(seconds_at(Q, 0, (2, 3)), ((0, 1), (1, 0)))

    def test_each_word(self):
        steps = (("in", 0), ("in", 1), ("set", 3), ("*", 0, 0), ("*", 0, 1), ("neg", 4), ("+", 3, 5), ("-", 3, 4),
                 ("*", 6, 7), ("*", 2, 8), ("*", 8, 8))
        self.check((2, steps, tuple(range(11))), (5, -7))

    def test_ends_that_hang_on_nothing(self):
        row = (3, (("set", 4), ("in", 1), ("+", 1, 0), ("-", 1, 1)), (0, 2, 3))
        for end in range(3):
            self.assertEqual(seconds_at(row, end, (1, 2, 3)), ((0, 0, 0),) * 3)

    def test_without_inputs(self):
        self.assertEqual(seconds_at((0, (("set", 4), ("*", 0, 0)), (1,)), 0, ()), ())

    def test_ends_that_stand_twice(self):
        self.check((1, (("in", 0), ("*", 0, 0)), (1, 0, 1)), (9,))

    def test_random_rows(self):
        for seed in range(30):
            self.check(random_row(seed, seed % 4, 25, 2, most=5), random_point(seed, seed % 4, 10 ** 20))

    def test_long_rows(self):
        row = random_row(5, 20, 400, 20)
        point = random_point(5, 20, 10 ** 20)
        found = seconds_at(row, 3, point)
        self.assertEqual(found, tuple(zip(*found)))
        # The pulls along a direction, by rates of the forward row, reckoned the other way.
        ahead = forward((20, row[1], (row[2][3],)))
        for index in (0, 7, 19):
            direction = tuple(int(place == index) for place in range(20))
            self.assertEqual(found[index], rates_at(ahead, point + direction)[1][:20])

    def test_powers_as_great_as_may_be(self):
        self.assertEqual(seconds_at((1, chain(64), (6,)), 0, (3,)), ((64 * 63 * 3 ** 62,),))

    def test_sums_of_squares_of_twenty_inputs(self):
        steps = tuple(("in", k) for k in range(20)) + tuple(("*", k, k) for k in range(20)) + (("+", 20, 21),)
        steps = steps + tuple(("+", 40 + k, 22 + k) for k in range(18))
        found = seconds_at((20, steps, (58,)), 0, (1,) * 20)
        self.assertEqual(found, tuple(tuple(2 * (one == other) for one in range(20)) for other in range(20)))


class TogetherTest(unittest.TestCase):
    """What holds of rows that are fed, slim, renamed or put beside one another."""

    def test_rates_of_fed_rows(self):
        for seed in range(40):
            many = 1 + seed % 4
            one, other = random_row(seed, 1 + seed % 3, 12, many, most=5), random_row(seed + 70, many, 12, 3, most=5)
            point = random_point(seed, one[0], 10 ** 20)
            self.assertEqual(rates_at(fed(one, other), point), rates_fed(one, other, point))
            weights = random_point(seed, 3, 10 ** 9)
            outer = pulls(other, told(one, point), weights)
            self.assertEqual(swept(fed(one, other), point, weights), pulls(one, point, outer))

    def test_slim_rows(self):
        for seed in range(40):
            row = random_row(seed, 1 + seed % 5, 40, 6)
            thin, point, weights = slim(row), random_point(seed, row[0], 99), random_point(seed, 6, 99)
            self.assertEqual(rates_at(thin, point), rates_at(row, point))
            self.assertEqual(swept(thin, point, weights), swept(row, point, weights))
            self.assertEqual(seconds_at(thin, 2, point), seconds_at(row, 2, point))
            direction = random_point(seed + 1, row[0], 99)
            for made, twice in ((forward(thin), point + direction), (backward(thin), point + weights)):
                self.assertIsNone(long_error(slim(made)))
                self.assertEqual(told(slim(made), twice), told(made, twice))

    def test_rows_beside_one_another(self):
        for seed in range(30):
            one, other = random_row(seed, 2, 15, 2), random_row(seed + 40, 3, 15, 3)
            both = beside(one, other)
            here, there = random_point(seed, 2, 10 ** 20), random_point(seed, 3, 10 ** 20)
            rates = tuple(some + (0, 0, 0) for some in rates_at(one, here))
            rates = rates + tuple((0, 0) + some for some in rates_at(other, there))
            self.assertEqual(rates_at(both, here + there), rates)
            self.assertEqual(swept(both, here + there, (1, 2, 3, 4, 5)),
                             swept(one, here, (1, 2)) + swept(other, there, (3, 4, 5)))

    def test_renamed_rows(self):
        for seed in range(30):
            row = random_row(seed, 3, 20, 2)
            made = renamed(row, 4, (2, 0, 2))
            point = random_point(seed, 4, 10 ** 20)
            inner = (point[2], point[0], point[2])
            rates = swept(row, inner, (5, 7))
            self.assertEqual(told(made, point), told(row, inner))
            self.assertEqual(swept(made, point, (5, 7)), (rates[1], 0, rates[0] + rates[2], 0))

    def test_rows_as_great_as_may_be(self):
        row = full_row()
        point, direction, weights = (random_point(seed, 8, 10 ** 20) for seed in range(3))
        ahead, back = forward(row), backward(row)
        self.assertEqual([long_error(ahead), long_error(back)], [None, None])
        rates = rates_at(row, point)
        self.assertEqual(told(ahead, point + direction),
                         told(row, point) + tuple(sum(map(int.__mul__, some, direction)) for some in rates))
        self.assertEqual(told(back, point + weights), pulls(row, point, weights))
        self.assertEqual(swept(ahead, point + direction, (0,) * 8 + weights)[8:], pulls(row, point, weights))


class AllTest(unittest.TestCase):

    def test_nothing_that_is_passed_is_changed_and_equal_calls_tell_the_same(self):
        before = repr(Q)
        first = [swept(Q, (2, 3), (1, 0)), kept(Q), swept_by(Q, ((0, 2), (1, 3)), (1, 0)), seconds_at(Q, 0, (2, 3))]
        self.assertEqual(first, [swept(Q, (2, 3), (1, 0)), kept(Q), swept_by(Q, ((0, 2), (1, 3)), (1, 0)),
                                 seconds_at(Q, 0, (2, 3))])
        self.assertEqual(repr(Q), before)

    def test_arguments_by_name(self):
        self.assertEqual(swept(weights=(1, 0), point=(2, 3), row=Q), (4, 2))
        self.assertEqual(kept(row=Q), (0, 1))
        self.assertEqual(swept_by(weights=(1, 0), some=((0, 2), (1, 3)), row=Q), (4, 2))
        self.assertEqual(seconds_at(point=(2, 3), end=0, row=Q), ((0, 1), (1, 0)))


if __name__ == "__main__":
    unittest.main()
