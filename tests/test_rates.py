import unittest

from helper import BEYOND, FULL, JUST, MORE, NARROW, NOT_NEEDED, STEPS, TAKEN_AWAY
from helper import bent, chain, full_row, lists_of, random_point, random_row
from rowsback.bounds import MAX_NUMBER
from rowsback.errors import TooWide, Unfit
from rowsback.polys import constant, minus, plus, scaled, times, unknown, value_of
from rowsback.rates import forward, hangs, is_forward, rate, rate_poly, rates_at, rates_fed, second, spread
from rowsback.rows import long_error, needed, row_error, told
from rowsback.sames import polys

Q = (2, (("in", 0), ("in", 1), ("*", 0, 1), ("+", 2, 0)), (3, 1))
CONSTANTS = (0, (("set", 3), ("*", 0, 0), ("neg", 1)), (2, 0))


def rate_by_steps(row, point, index):
    """Return the rates of the ends by an input, told by a step of a huge number along it."""
    far = 10 ** 6000
    moved = point[:index] + (point[index] + far,) + point[index + 1:]
    rates = []
    for low, high in zip(told(row, point), told(row, moved)):
        quotient, rest = divmod(high - low, far)
        assert rest == 0
        quotient = quotient % far
        rates.append(quotient - far if 2 * quotient > far else quotient)
    return rates


class RateTest(unittest.TestCase):

    def test_examples(self):
        self.assertEqual(rate((((0, 1), 5), ((2, 1), 3)), 0), (((1, 1), 6),))
        self.assertEqual(spread((((0, 0), 7), ((2, 1), 3))), (((2, 1), 9),))
        self.assertEqual(rate_poly(Q, 0, 0), (((0, 0), 1), ((0, 1), 1)))
        self.assertEqual(second(Q, 0, 1, 0), (((0, 0), 1),))
        self.assertEqual(hangs(Q), ((0, 1), (1,)))

    def test_rate(self):
        poly = (((0, 0, 0), 4), ((0, 1, 2), -3), ((0, 3, 0), 1), ((5, 0, 0), 2), ((6, 1, 1), -1))
        self.assertEqual(rate(poly, 0), (((4, 0, 0), 10), ((5, 1, 1), -6)))
        self.assertEqual(rate(poly, 1), (((0, 0, 2), -3), ((0, 2, 0), 3), ((6, 0, 1), -1)))
        self.assertEqual(rate(poly, 2), (((0, 1, 1), -6), ((6, 1, 0), -1)))
        self.assertEqual([rate((), 1), rate(constant(3, 8), 2), rate(unknown(3, 2), 2)], [(), (), constant(3, 1)])
        self.assertEqual(rate((((64,), 10 ** 300),), 0), (((63,), 64 * 10 ** 300),))

    def test_rate_of_products(self):
        one = plus(times(unknown(2, 0), unknown(2, 1)), constant(2, 3))
        other = minus(times(unknown(2, 1), unknown(2, 1)), unknown(2, 0))
        for index in range(2):
            whole = plus(times(rate(one, index), other), times(one, rate(other, index)))
            self.assertEqual(rate(times(one, other), index), whole)
            self.assertEqual(rate(plus(one, other), index), plus(rate(one, index), rate(other, index)))

    def test_spread(self):
        self.assertEqual(spread(()), ())
        self.assertEqual(spread(constant(0, 4)), ())
        self.assertEqual(spread((((0, 1), -2), ((1, 0), 5), ((3, 4), 1))), (((0, 1), -2), ((1, 0), 5), ((3, 4), 7)))
        for seed in range(20):
            row = random_row(seed, 3, 12, 2, most=6)
            for poly in polys(row):
                total = ()
                for index in range(3):
                    total = plus(total, times(unknown(3, index), rate(poly, index)))
                self.assertEqual(spread(poly), total)

    def test_rate_poly_and_second(self):
        row = (2, (("in", 0), ("*", 0, 0), ("*", 1, 0), ("in", 1), ("*", 2, 3), ("set", 4)), (4, 5, 4))
        self.assertEqual(rate_poly(row, 0, 0), (((2, 1), 3),))
        self.assertEqual(rate_poly(row, 2, 1), (((3, 0), 1),))
        self.assertEqual(rate_poly(row, 1, 1), ())
        self.assertEqual([second(row, 0, 0, 0), second(row, 0, 0, 1), second(row, 0, 1, 1)],
                         [(((1, 1), 6),), (((2, 0), 3),), ()])
        for seed in range(20):
            row = random_row(seed, 3, 12, 2, most=6)
            for one in range(3):
                for other in range(3):
                    self.assertEqual(second(row, 1, one, other), second(row, 1, other, one))
                    self.assertEqual(second(row, 1, one, other), rate(rate(polys(row)[1], one), other))

    def test_hangs(self):
        steps = (("in", 0), ("in", 2), ("-", 0, 0), ("*", 1, 2), ("+", 3, 0), ("set", 1))
        self.assertEqual(hangs((3, steps, (2, 3, 4, 5, 1))), ((), (), (0,), (), (2,)))
        self.assertEqual(hangs(CONSTANTS), ((), ()))
        self.assertEqual(hangs((8, tuple(("in", k) for k in range(8)), (7, 0))), ((7,), (0,)))

    def test_too_wide(self):
        for row in (BEYOND, TAKEN_AWAY):
            for tell in (lambda row: rate_poly(row, 0, 0), lambda row: second(row, 0, 0, 1), hangs):
                with self.assertRaises(TooWide):
                    tell(row)

    def test_not_too_wide(self):
        self.assertEqual(len(rate_poly(JUST, 0, 0)), 175)
        self.assertEqual(len(second(JUST, 0, 0, 1)), 168)
        self.assertEqual([hangs(JUST), hangs(NOT_NEEDED)], [((0, 1),), ((0,), (0, 1))])


class RatesAtTest(unittest.TestCase):

    def test_examples(self):
        self.assertEqual(rates_at(Q, (2, 3)), ((4, 2), (0, 1)))
        self.assertEqual(rates_at(Q, (0, 0)), ((1, 0), (0, 1)))
        self.assertEqual(rates_fed(Q, (2, (("in", 0), ("in", 1), ("-", 0, 1)), (2,)), (2, 3)), ((4, 1),))

    def test_each_word(self):
        row = (2, (("in", 0), ("in", 1), ("set", 5), ("neg", 0), ("+", 0, 2), ("-", 2, 1), ("*", 4, 5), ("*", 0, 0),
                   ("in", 0), ("-", 0, 1), ("+", 1, 0)), (2, 3, 4, 5, 6, 7, 8, 9, 10))
        self.assertEqual(rates_at(row, (7, 3)), (
            (0, 0), (-1, 0), (1, 0), (0, -1), (2, -12), (14, 0), (1, 0), (1, -1), (1, 1),
        ))

    def test_rows_without_inputs(self):
        self.assertEqual(rates_at(CONSTANTS, ()), ((), ()))
        self.assertEqual(rates_fed(CONSTANTS, Q, ()), ((), ()))

    def test_rates_are_those_of_the_polynomials(self):
        for seed in range(60):
            row = random_row(seed, 1 + seed % 4, 20, 3, most=8)
            point = random_point(seed, row[0], 10 ** 25)
            try:
                wanted = tuple(tuple(value_of(rate(poly, k), point) for k in range(row[0])) for poly in polys(row))
            except TooWide:
                continue
            self.assertEqual(rates_at(row, point), wanted)

    def test_rates_of_long_rows_told_otherwise(self):
        for seed in range(8):
            row = random_row(seed, 20, 400, 20, most=64)
            self.assertIsNone(long_error(row))
            point = random_point(seed, 20, 10 ** 20)
            found = rates_at(row, point)
            self.assertEqual([len(found), {len(rates) for rates in found}], [20, {20}])
            for index in (0, 7, 19):
                self.assertEqual([rates[index] for rates in found], rate_by_steps(row, point, index))

    def test_integers_of_any_size(self):
        row = (1, chain(64), (6, 1))
        big = 10 ** 3000 + 1
        self.assertEqual(rates_at(row, (big,)), ((64 * big ** 63,), (2 * big,)))

    def test_no_too_wide(self):
        self.assertEqual(rates_at(TAKEN_AWAY, (1, 1)), rates_at(JUST, (1, 1)))
        self.assertEqual(rates_at(BEYOND, (2, 0)), ((8 * 2 ** 7, 0), rates_at(BEYOND, (2, 0))[1]))
        self.assertEqual(len(rates_fed(TAKEN_AWAY, (1, (("in", 0),), (0,)), (1, 1))[0]), 2)


class RatesFedTest(unittest.TestCase):

    def test_unfit(self):
        for other in ((1, (("in", 0),), (0,)), (3, (("in", 0),), (0,)), (0, (("set", 0),), (0,))):
            with self.assertRaises(Unfit):
                rates_fed(Q, other, (2, 3))

    def test_beyond_the_greatest_number(self):
        square = (1, (("in", 0), ("*", 0, 0)), (1,))
        self.assertEqual(rates_fed(square, square, (MAX_NUMBER,)), ((4 * MAX_NUMBER ** 3,),))

    def test_ends_that_stand_twice(self):
        twice = (1, (("in", 0), ("set", 3), ("*", 0, 1)), (2, 2))
        product = (2, (("in", 0), ("in", 1), ("*", 0, 1)), (2, 0, 1))
        self.assertEqual(rates_fed(twice, product, (5,)), ((90,), (3,), (3,)))

    def test_chains_of_random_rows(self):
        for seed in range(40):
            row = random_row(seed, seed % 4, 12, 1 + seed % 3, most=5)
            other = random_row(seed + 77, 1 + seed % 3, 12, 2, most=5)
            point = random_point(seed, row[0], 30)
            inner, outer = rates_at(row, point), rates_at(other, told(row, point))
            wanted = tuple(
                tuple(sum(weights[k] * inner[k][index] for k in range(len(inner))) for index in range(row[0]))
                for weights in outer
            )
            self.assertEqual(rates_fed(row, other, point), wanted)

    def test_long_rows(self):
        wide = (20, tuple(("in", k) for k in range(20)) + (("*", 0, 19),), tuple(range(1, 21)))
        point = tuple(range(1, 21))
        found = rates_fed(wide, wide, point)
        self.assertEqual(len(found), 20)
        self.assertEqual(found[0], (0, 0, 1) + (0,) * 17)
        self.assertEqual(found[19], (2 * 20,) + (20,) + (0,) * 17 + (2,))


class ForwardTest(unittest.TestCase):

    def check(self, row):
        """Look at a forward row by its values alone."""
        made = forward(row)
        inputs, _, ends = row
        self.assertIsNone(long_error(made))
        self.assertEqual([made[0], len(made[2])], [2 * inputs, 2 * len(ends)])
        self.assertLessEqual(len(made[1]), 4 * len(row[1]) + 1)
        for seed in range(3):
            point = random_point(seed, inputs, 10 ** 20)
            way = random_point(seed + 9, inputs, 10 ** 20)
            rates = tuple(sum(k * rate for k, rate in zip(way, some)) for some in rates_at(row, point))
            self.assertEqual(told(made, point + way), told(row, point) + rates)
        self.assertEqual(forward(row), made)
        return made

    def test_examples(self):
        self.assertIs(is_forward(Q, forward(Q)), True)
        self.assertLessEqual(len(forward(Q)[1]), 17)
        self.assertIs(is_forward(Q, Q), False)

    def test_each_word(self):
        for step in (("in", 1), ("set", 4), ("neg", 0), ("+", 0, 1), ("-", 0, 1), ("*", 0, 1), ("*", 1, 1),
                     ("-", 0, 0), ("+", 2, 0), ("-", 2, 0), ("-", 0, 2), ("*", 2, 0), ("*", 0, 2), ("*", 2, 2)):
            row = (2, (("in", 0), ("in", 1), ("set", 7), step), (3, 2, 3))
            self.check(row)
            self.assertIs(is_forward(row, forward(row)), True)

    def test_rows_without_inputs(self):
        made = self.check(CONSTANTS)
        self.assertEqual(told(made, ()), (-9, 3, 0, 0))
        self.assertIs(is_forward(CONSTANTS, made), True)

    def test_random_rows(self):
        for seed in range(60):
            row = random_row(seed, seed % 5, 12, 3, most=4)
            made = self.check(row)
            try:
                self.assertIs(is_forward(row, made), True)
            except TooWide:
                self.assertGreater(seed, -1)

    def test_as_many_of_all_as_may_be(self):
        row = full_row()
        self.assertIsNone(row_error(row))
        self.assertEqual([row[0], len(row[1]), len(row[2])], [8, 60, 8])
        self.check(row)
        products = (8, (("in", 0),) + (("*", 0, 0),) * 59, (59,) * 8)
        made = self.check(products)
        self.assertLessEqual(len(made[1]), 241)
        self.assertIs(is_forward(products, made), True)
        unused = (8, (("in", 0),) + (("*", 0, 0),) * 59, (0,))
        self.assertIs(is_forward(unused, self.check(unused)), True)

    def test_greatest_size(self):
        for ends in ((6,), (6, 0, 6)):
            row = (1, chain(64), ends)
            self.assertIs(is_forward(row, self.check(row)), True)
        sets = (1, (("in", 0), ("set", 1)) + tuple(("*", k, k) for k in range(1, 7)) + (("+", 7, 0),), (8, 7))
        self.assertIs(is_forward(sets, self.check(sets)), True)

    def test_too_wide(self):
        narrow = (4, (("in", 0),), (0, 0))
        with self.assertRaises(TooWide):
            is_forward(TAKEN_AWAY, narrow)
        with self.assertRaises(TooWide):
            is_forward((2, (("in", 0),), (0,)), (4, STEPS, (0, MORE)))
        with self.assertRaises(TooWide):
            is_forward(JUST, forward(JUST))
        for value in (None, TAKEN_AWAY, (2, narrow[1], (0, 0)), (4, narrow[1], (0,)), (4, narrow[1], [0, 0])):
            self.assertIs(is_forward(TAKEN_AWAY, value), False)
        self.assertIs(is_forward(JUST, (4, STEPS, (FULL, NARROW))), False)

    def test_forward_raises_nothing(self):
        self.check(TAKEN_AWAY)
        self.check(BEYOND)

    def test_other_rows(self):
        row = (1, (("in", 0), ("*", 0, 0)), (1,))
        good = (2, (("in", 0), ("in", 1), ("*", 0, 0), ("+", 0, 0), ("*", 1, 3)), (2, 4))
        self.assertIs(is_forward(row, good), True)
        longer = (2, good[1] + (("set", 1),) * 395, (2, 4))
        self.assertIs(is_forward(row, longer), True)
        self.assertIs(is_forward(row, (2, longer[1] + (("set", 1),), (2, 4))), False)
        for ends in ((4, 2), (2, 2), (2, 3), (0, 4), (2,), (2, 4, 4)):
            self.assertIs(is_forward(row, (2, good[1], ends)), False)
        self.assertIs(is_forward(row, (3, good[1], (2, 4))), False)
        self.assertIs(is_forward(row, (2, good[1][:4] + (("*", 0, 3),), (2, 4))), False)
        only_rate_wrong = (2, good[1] + (("set", 1), ("+", 4, 5)), (2, 6))
        self.assertIs(is_forward(row, only_rate_wrong), False)

    def test_bent_values(self):
        made = forward(Q)
        judged = {True: 0, False: 0}
        for value in list(bent(made)) + [lists_of(made), lists_of(Q)]:
            found = is_forward(Q, value)
            self.assertIn(type(found), (bool,))
            judged[found] += 1
            if found:
                self.assertEqual(told(value, (2, 3, 5, 7)), told(made, (2, 3, 5, 7)))
        self.assertGreater(judged[False], 100)

    def test_nothing_that_is_passed_is_changed(self):
        before = repr(Q)
        self.assertEqual([forward(Q), rates_at(Q, (1, 2))], [forward(Q), rates_at(Q, (1, 2))])
        self.assertEqual(repr(Q), before)
        value = lists_of(forward(Q))
        before = repr(value)
        is_forward(Q, value)
        self.assertEqual(repr(value), before)

    def test_arguments_by_name(self):
        self.assertEqual(rate(poly=unknown(1, 0), unknown=0), constant(1, 1))
        self.assertEqual(spread(poly=scaled(unknown(1, 0), 5)), scaled(unknown(1, 0), 5))
        self.assertEqual(rate_poly(row=Q, end=0, unknown=1), unknown(2, 0))
        self.assertEqual(second(row=Q, end=0, one=0, other=1), constant(2, 1))
        self.assertEqual(hangs(row=Q), ((0, 1), (1,)))
        self.assertEqual(rates_at(row=Q, point=(0, 0)), ((1, 0), (0, 1)))
        self.assertEqual(rates_fed(row=Q, other=Q, point=(0, 0)), ((1, 0), (0, 1)))
        self.assertTrue(is_forward(row=Q, value=forward(row=Q)))
        self.assertEqual(len(needed(forward(Q))), len(forward(Q)[1]))


if __name__ == "__main__":
    unittest.main()
