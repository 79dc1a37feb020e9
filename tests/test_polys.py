import random
import unittest

from rowsback.polys import constant, minus, plus, scaled, times, unknown, value_of

X, Y = unknown(2, 0), unknown(2, 1)


def random_poly(seed, many, pairs, most=6, biggest=9):
    rng = random.Random(seed)
    made = {}
    for _ in range(pairs):
        made[tuple(rng.randint(0, most) for _ in range(many))] = rng.choice((-1, 1)) * rng.randint(1, biggest)
    return tuple(sorted(made.items()))


class PolysTest(unittest.TestCase):

    def check_form(self, poly, many):
        self.assertIs(type(poly), tuple)
        self.assertEqual(list(poly), sorted(poly))
        self.assertEqual(len({powers for powers, _ in poly}), len(poly))
        for pair in poly:
            self.assertIs(type(pair), tuple)
            powers, factor = pair
            self.assertIs(type(powers), tuple)
            self.assertEqual(len(powers), many)
            self.assertTrue(all(type(power) is int and power >= 0 for power in powers))
            self.assertTrue(type(factor) is int and factor != 0)

    def test_examples(self):
        self.assertEqual(X, (((1, 0), 1),))
        self.assertEqual(constant(2, 0), ())
        self.assertEqual(plus(X, constant(2, 3)), (((0, 0), 3), ((1, 0), 1)))
        self.assertEqual(times(plus(X, Y), minus(X, Y)), (((0, 2), -1), ((2, 0), 1)))
        self.assertEqual(scaled(X, 0), ())
        self.assertEqual(value_of(times(X, Y), (3, -4)), -12)

    def test_unknown_and_constant(self):
        self.assertEqual(unknown(1, 0), (((1,), 1),))
        self.assertEqual(unknown(4, 2), (((0, 0, 1, 0), 1),))
        self.assertEqual(unknown(20, 19), (((0,) * 19 + (1,), 1),))
        self.assertEqual(constant(3, -5), (((0, 0, 0), -5),))
        self.assertEqual(constant(3, 10 ** 300 - 1), (((0, 0, 0), 10 ** 300 - 1),))

    def test_no_unknown(self):
        four, five = constant(0, 4), constant(0, 5)
        self.assertEqual(four, (((), 4),))
        self.assertEqual(constant(0, 0), ())
        self.assertEqual(plus(four, five), (((), 9),))
        self.assertEqual(minus(four, five), (((), -1),))
        self.assertEqual(minus(four, four), ())
        self.assertEqual(times(four, five), (((), 20),))
        self.assertEqual(scaled(four, -2), (((), -8),))
        self.assertEqual([value_of(four, ()), value_of((), ())], [4, 0])

    def test_nought(self):
        poly = plus(times(X, Y), constant(2, 1))
        self.assertEqual(plus(poly, scaled(poly, -1)), ())
        self.assertEqual(minus(poly, poly), ())
        self.assertEqual([plus((), ()), minus((), ()), times((), ()), scaled((), 5), times(poly, ()), times((), poly)],
                         [()] * 6)
        self.assertEqual([plus((), poly), plus(poly, ()), minus(poly, ())], [poly] * 3)
        self.assertEqual(minus((), poly), (((0, 0), -1), ((1, 1), -1)))
        self.assertEqual(value_of((), (3, 4)), 0)

    def test_pairs_that_fall_away(self):
        self.assertEqual(times(plus(X, Y), plus(X, scaled(Y, -1))), minus(times(X, X), times(Y, Y)))
        self.assertEqual(plus(plus(X, Y), scaled(X, -1)), Y)
        self.assertEqual(minus(plus(X, Y), Y), X)

    def test_values(self):
        self.assertEqual(value_of((((0, 0), 7), ((0, 3), 2), ((2, 1), -1)), (5, -2)), 7 - 16 + 50)
        self.assertEqual(value_of((((64,), 1),), (3,)), 3 ** 64)
        self.assertEqual(value_of((((0, 1), 1),), (0, 6)), 6)
        self.assertEqual(value_of((((0,), 5),), (0,)), 5)
        big = 10 ** 300 - 1
        self.assertEqual(value_of((((1, 2), big),), (big, -big)), big ** 4)

    def test_random_polynomials(self):
        for seed in range(80):
            many = seed % 5
            one, other = random_poly(seed, many, 1 + seed % 17), random_poly(seed + 1000, many, 1 + seed % 13)
            rng = random.Random(seed)
            numbers = tuple(rng.randint(-50, 50) for _ in range(many))
            number = rng.randint(-9, 9)
            here, there = value_of(one, numbers), value_of(other, numbers)
            made = (plus(one, other), minus(one, other), times(one, other), scaled(one, number))
            for poly, value in zip(made, (here + there, here - there, here * there, here * number)):
                self.check_form(poly, many)
                self.assertEqual(value_of(poly, numbers), value)
            slow = sum(factor * self.slow_product(powers, numbers) for powers, factor in one)
            self.assertEqual(here, slow)

    def slow_product(self, powers, numbers):
        whole = 1
        for power, number in zip(powers, numbers):
            whole *= number ** power
        return whole

    def test_as_many_pairs_as_may_be(self):
        one = tuple(((left, right), 1) for left in range(10) for right in range(20))
        other = tuple(((10 * left, 0), -1) for left in range(3)) + (((50, 1), 2),)
        self.assertEqual(len(one), 200)
        self.assertEqual(len(plus(one, one)), 200)
        self.assertEqual(times(one, other)[:1], (((0, 0), -1),))
        self.assertEqual(len(times(one, other)), 800)
        self.assertEqual(len(times(one, one)), 19 * 39)
        self.check_form(times(one, one), 2)

    def test_twenty_unknowns(self):
        every = ()
        for index in range(20):
            every = plus(every, unknown(20, index))
        self.assertEqual(len(every), 20)
        self.assertEqual(len(times(every, every)), 210)
        self.assertEqual(value_of(times(every, every), (1,) * 20), 400)
        self.check_form(times(every, every), 20)

    def test_arguments_by_name(self):
        self.assertEqual(unknown(many=2, index=1), Y)
        self.assertEqual(constant(many=1, number=2), (((0,), 2),))
        self.assertEqual([plus(one=X, other=Y), minus(one=X, other=Y), times(one=X, other=Y)],
                         [plus(X, Y), minus(X, Y), times(X, Y)])
        self.assertEqual(scaled(poly=X, number=4), (((1, 0), 4),))
        self.assertEqual(value_of(poly=X, numbers=(8, 9)), 8)


if __name__ == "__main__":
    unittest.main()
