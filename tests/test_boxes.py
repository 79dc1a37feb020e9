import itertools
import random
import unittest

from helper import bent, lists_of, random_row
from rowsback.bounds import MAX_NUMBER
from rowsback.boxes import by_rates, corner, growth, is_box, middle, parted, point_count, ranges, rate_ranges
from rowsback.rates import rates_at
from rowsback.rows import told

R = (2, (("in", 0), ("in", 1), ("*", 0, 1), ("+", 2, 0)), (3, 1))
B = ((-1, 2), (3, 4))
NO_INPUTS = (0, (("set", 3), ("*", 0, 0), ("neg", 1)), (2, 0))
FAR = ((10 ** 20 - 3, 10 ** 20), (-10 ** 20, 1 - 10 ** 20))


def row_of_words(*steps):
    """Return a row in 2 inputs with the steps behind both inputs, a set 2 and a set -5; each of them is an end."""
    made = (("in", 0), ("in", 1), ("set", 2), ("set", -5)) + steps
    return (2, made, tuple(range(4, len(made))))


def points_of(box):
    return itertools.product(*[range(low, high + 1) for low, high in box])


def random_box(seed, many):
    rng = random.Random(seed)
    lows = [rng.randint(-6, 5) for _ in range(many)]
    return tuple((low, low + rng.randint(0, 4)) for low in lows)


class IsBoxTest(unittest.TestCase):

    def test_examples(self):
        self.assertIs(is_box(R, B), True)
        self.assertIs(is_box(R, ((2, 1), (3, 4))), False)

    def test_edges(self):
        self.assertIs(is_box(R, ((5, 5), (-MAX_NUMBER, MAX_NUMBER))), True)
        self.assertIs(is_box(R, FAR), True)
        wrong = (
            ((0, MAX_NUMBER + 1), (0, 1)), ((-MAX_NUMBER - 1, 0), (0, 1)), ((0, 1),), B + ((0, 1),), ((0, 1), (1, 0)),
            ((True, 1), (0, 1)), ((0, True), (0, 1)), ((0, 1, 2), (0, 1)), ((0,), (0, 1)), ([0, 1], (0, 1)),
            [B[0], B[1]], (0, 1), None, ((0, None), (0, 1)), (("0", "1"), (0, 1)),
            ((MAX_NUMBER + 1, MAX_NUMBER + 2), (0, 1)),
            ((-MAX_NUMBER - 2, -MAX_NUMBER - 1), (0, 1)), ((False, 1), (0, 1)),
        )
        for value in wrong:
            self.assertIs(is_box(R, value), False, value)

    def test_rows_without_inputs(self):
        self.assertIs(is_box(NO_INPUTS, ()), True)
        for value in ([], ((0, 0),), None, {}, ""):
            self.assertIs(is_box(NO_INPUTS, value), False)

    def test_bent_values(self):
        for value in list(bent(B)) + [lists_of(B)]:
            right = type(value) is tuple and len(value) == 2
            for item in value if right else ():
                right = right and type(item) is tuple and len(item) == 2
                right = right and type(item[0]) is int and type(item[1]) is int
                right = right and -10 ** 20 <= item[0] <= item[1] <= 10 ** 20
            self.assertIs(is_box(R, value), right)


class PartsTest(unittest.TestCase):

    def test_examples(self):
        self.assertEqual(point_count(B), 8)
        self.assertEqual(middle(B), (0, 3))
        self.assertEqual(parted(B, 0, 1), (((-1, 1), (3, 4)), ((2, 2), (3, 4))))

    def test_point_count(self):
        self.assertEqual([point_count(()), point_count(((7, 7),)), point_count(FAR)], [1, 1, 8])
        self.assertEqual(point_count(((-MAX_NUMBER, MAX_NUMBER),) * 8), (2 * 10 ** 20 + 1) ** 8)

    def test_middle(self):
        self.assertEqual(middle(()), ())
        self.assertEqual(middle(((-4, -1), (-3, 3), (5, 5), (0, 1))), (-3, 0, 5, 0))
        self.assertEqual(middle(FAR), (10 ** 20 - 2, -10 ** 20))

    def test_parted(self):
        self.assertEqual(parted(B, 1, 3), (((-1, 2), (3, 3)), ((-1, 2), (4, 4))))
        self.assertEqual(parted(B, 0, -1), (((-1, -1), (3, 4)), ((0, 2), (3, 4))))
        three = ((0, 9), (10, 19), (20, 29))
        self.assertEqual(parted(three, 1, 15), (((0, 9), (10, 15), (20, 29)), ((0, 9), (16, 19), (20, 29))))
        self.assertEqual(parted(three, 2, 20)[1], ((0, 9), (10, 19), (21, 29)))
        for box in parted(FAR, 0, 10 ** 20 - 1):
            self.assertTrue(is_box(R, box))

    def test_parts_have_all_points_once(self):
        for seed in range(20):
            box = random_box(seed, 3)
            for unknown in range(3):
                for number in range(box[unknown][0], box[unknown][1]):
                    one, other = parted(box, unknown, number)
                    self.assertEqual(sorted(list(points_of(one)) + list(points_of(other))), sorted(points_of(box)))
                    self.assertEqual(point_count(one) + point_count(other), point_count(box))


class RangesTest(unittest.TestCase):

    def test_examples(self):
        self.assertEqual(ranges(R, B), ((-5, 10), (3, 4)))
        self.assertEqual(rate_ranges(R, B), (((4, 5), (-1, 2)), ((0, 0), (1, 1))))
        self.assertEqual(by_rates(R, B), ((-6, 12), (3, 4)))
        self.assertEqual(growth(R, B), (("up", None), ("same", "up")))
        self.assertIsNone(corner(R, 0, B))
        self.assertEqual(corner(R, 1, B), (-1, 3))

    def test_range_of_each_word(self):
        row = row_of_words(("neg", 0), ("+", 0, 1), ("-", 0, 1), ("*", 0, 1), ("*", 0, 0), ("*", 0, 3), ("-", 0, 0),
                           ("set", 6), ("in", 1), ("*", 4, 4), ("-", 1, 3), ("neg", 3), ("*", 2, 3))
        self.assertEqual(ranges(row, ((-2, 3), (1, 4))), (
            (-3, 2), (-1, 7), (-6, 2), (-8, 12), (-6, 9), (-15, 10), (-5, 5),
            (6, 6), (1, 4), (-6, 9), (6, 9), (5, 5), (-10, -10),
        ))
        self.assertEqual(ranges(row, ((-3, -2), (-4, -1)))[:5], ((2, 3), (-7, -3), (-2, 2), (2, 12), (4, 9)))

    def test_rate_range_of_each_word(self):
        row = row_of_words(("neg", 0), ("+", 0, 1), ("-", 0, 1), ("*", 0, 1), ("*", 0, 0), ("*", 7, 0), ("set", 6),
                           ("in", 1), ("neg", 7), ("-", 8, 7), ("+", 8, 7), ("*", 0, 3), ("in", 0))
        self.assertEqual(rate_ranges(row, ((-2, 3), (1, 4))), (
            ((-1, -1), (0, 0)),
            ((1, 1), (1, 1)),
            ((1, 1), (-1, -1)),
            ((1, 4), (-2, 3)),
            ((-4, 6), (0, 0)),
            ((-16, 24), (-6, 9)),
            ((0, 0), (0, 0)),
            ((0, 0), (1, 1)),
            ((-4, -1), (-3, 2)),
            ((-8, 5), (-3, 2)),
            ((-3, 10), (-2, 3)),
            ((-5, -5), (0, 0)),
            ((1, 1), (0, 0)),
        ))

    def test_by_rates_by_hand(self):
        square = (1, (("in", 0), ("*", 0, 0)), (1,))
        self.assertEqual(by_rates(square, ((1, 4),)), ((4 - 8, 4 + 16),))
        self.assertEqual(by_rates(square, ((-4, -1),)), ((9 - 16, 9 + 8),))
        less = (2, (("in", 0), ("in", 1), ("-", 0, 1), ("*", 2, 2)), (2, 3))
        box = ((0, 3), (2, 4))
        self.assertEqual(rate_ranges(less, box)[1], ((-8, 2), (-2, 8)))
        self.assertEqual(by_rates(less, box), ((-4, 1), (4 - 16 - 8, 4 + 8 + 8)))

    def test_growth_words(self):
        row = row_of_words(("*", 0, 0), ("neg", 4), ("*", 2, 0), ("*", 3, 1), ("set", 0), ("*", 8, 0), ("*", 0, 1))
        self.assertEqual(growth(row, ((0, 3), (-1, 5))), (
            ("up", "same"), ("down", "same"), ("up", "same"), ("same", "down"), ("same", "same"), ("same", "same"),
            (None, "up"),
        ))
        self.assertEqual(growth(row, ((-3, 0), (-2, 0)))[0], ("down", "same"))
        self.assertEqual(growth(row, ((-3, 0), (-2, 0)))[1], ("up", "same"))
        self.assertEqual(growth(row, ((-3, 1), (-2, 0)))[0], (None, "same"))
        self.assertEqual(growth(row, ((0, 0), (0, 0)))[0], ("same", "same"))
        self.assertEqual(growth(row, ((0, 0), (-1, 1)))[6], (None, "same"))
        self.assertEqual([growth(row, ((-2, 1), (-9, 1)))[6], growth(row, ((-1, 2), (-1, 9)))[6]], [(None, None)] * 2)
        self.assertEqual(growth(row, ((-3, 0), (-2, 0)))[6], ("down", "down"))

    def test_corner(self):
        row = row_of_words(("-", 0, 1), ("neg", 4), ("set", 9), ("*", 0, 1), ("*", 0, 0))
        box = ((2, 5), (-3, 4))
        self.assertEqual([corner(row, end, box) for end in range(5)], [(2, 4), (5, -3), (2, -3), None, (2, -3)])
        self.assertEqual(corner(row, 3, ((-5, -2), (-3, 0))), (-2, 0))

    def test_boxes_of_one_point(self):
        for seed in range(20):
            row = random_row(seed, 2, 10, 3, most=5)
            point = (seed - 9, 3 * seed - 20)
            box = tuple((k, k) for k in point)
            values = told(row, point)
            self.assertEqual(ranges(row, box), tuple((k, k) for k in values))
            self.assertEqual(by_rates(row, box), tuple((k, k) for k in values))
            self.assertEqual(rate_ranges(row, box), tuple(tuple((k, k) for k in some) for some in rates_at(row, point)))
            self.assertEqual([corner(row, end, box) for end in range(3)], [point] * 3)

    def test_rows_without_inputs(self):
        self.assertEqual(ranges(NO_INPUTS, ()), ((-9, -9), (3, 3)))
        self.assertEqual(rate_ranges(NO_INPUTS, ()), ((), ()))
        self.assertEqual(by_rates(NO_INPUTS, ()), ((-9, -9), (3, 3)))
        self.assertEqual(growth(NO_INPUTS, ()), ((), ()))
        self.assertEqual([corner(NO_INPUTS, 0, ()), corner(NO_INPUTS, 1, ())], [(), ()])

    def test_far_from_nought(self):
        self.assertEqual(ranges(R, FAR)[1], FAR[1])
        low, high = ranges(R, FAR)[0]
        self.assertEqual(low, 10 ** 20 * -10 ** 20 + 10 ** 20 - 3)
        self.assertEqual(high, (10 ** 20 - 3) * (1 - 10 ** 20) + 10 ** 20)
        self.assertEqual(growth(R, FAR)[0], ("down", "up"))
        self.assertEqual(corner(R, 0, FAR), (10 ** 20, -10 ** 20))

    def test_all_points_lie_in_the_ranges(self):
        corners = 0
        for seed in range(60):
            many = 1 + seed % 3
            row, box = random_row(seed, many, 12, 3, most=4), random_box(seed, many)
            spans, rates, by = ranges(row, box), rate_ranges(row, box), by_rates(row, box)
            words = growth(row, box)
            values_there = []
            for point in points_of(box):
                values = told(row, point)
                values_there.append(values)
                for end, some in enumerate(rates_at(row, point)):
                    self.assertTrue(spans[end][0] <= values[end] <= spans[end][1])
                    self.assertTrue(by[end][0] <= values[end] <= by[end][1])
                    for k in range(many):
                        self.assertTrue(rates[end][k][0] <= some[k] <= rates[end][k][1])
            for end in range(3):
                at = corner(row, end, box)
                self.assertIs(at is None, None in words[end])
                if at is not None:
                    corners += 1
                    self.assertEqual(told(row, at)[end], min(values[end] for values in values_there))
        self.assertGreater(corners, 30)

    def test_ends_that_stand_twice(self):
        row = (1, (("in", 0), ("neg", 0)), (1, 1, 0))
        self.assertEqual(ranges(row, ((1, 2),)), ((-2, -1), (-2, -1), (1, 2)))
        self.assertEqual(growth(row, ((1, 2),)), (("down",), ("down",), ("up",)))

    def test_steps_that_no_end_needs(self):
        row = (1, (("in", 0), ("*", 0, 0)), (0,))
        self.assertEqual([ranges(row, ((1, 2),)), rate_ranges(row, ((1, 2),))], [((1, 2),), (((1, 1),),)])

    def test_kinds_of_what_is_returned(self):
        for value in (middle(B), parted(B, 0, 0), ranges(R, B), rate_ranges(R, B), by_rates(R, B), growth(R, B),
                      corner(R, 1, B)):
            self.check_tuples(value)

    def check_tuples(self, value):
        self.assertNotIsInstance(value, list)
        if isinstance(value, tuple):
            for item in value:
                self.check_tuples(item)

    def test_equal_calls_and_names(self):
        before = repr((R, B))
        self.assertEqual([is_box(row=R, value=B), point_count(box=B), middle(box=B)], [True, 8, (0, 3)])
        self.assertEqual(parted(box=B, unknown=0, number=1), parted(B, 0, 1))
        self.assertEqual([ranges(row=R, box=B), rate_ranges(row=R, box=B), by_rates(row=R, box=B)],
                         [ranges(R, B), rate_ranges(R, B), by_rates(R, B)])
        self.assertEqual([growth(row=R, box=B), corner(row=R, end=1, box=B)], [growth(R, B), corner(R, 1, B)])
        self.assertEqual(repr((R, B)), before)


if __name__ == "__main__":
    unittest.main()
