import random
import unittest
from itertools import product

from helper import HUGE, ODD, bent, full_row, lists_of, random_row
from rowsback.boxes import by_rates, is_box, parted, point_count, ranges
from rowsback.errors import TooGreat
from rowsback.fitting import beside, fed, renamed, slim
from rowsback.leasts import greatest, is_least_paper, least, least_paper, signs
from rowsback.rows import row_error, told

R = (2, (("in", 0), ("in", 1), ("*", 0, 1), ("+", 2, 0)), (3, 1))
B = ((-1, 2), (3, 4))
NO_INPUTS = (0, (("set", -9), ("set", 3)), (0, 1, 0))
SQUARE = (1, (("in", 0), ("*", 0, 0)), (1, 0))
# x * x - 4 * x: by its steps it seems to come lower than it does.
VALLEY = (1, (("in", 0), ("*", 0, 0), ("set", 4), ("*", 0, 2), ("-", 1, 3)), (4,))


def points_of(box):
    return product(*[range(low, high + 1) for low, high in box])


def random_box(seed, many, most=5):
    rng = random.Random(seed)
    lows = [rng.randint(-6, 6) for _ in range(many)]
    return tuple((low, low + rng.randint(0, most - 1)) for low in lows)


def deep_of(tree):
    return 0 if isinstance(tree, str) else 1 + max(deep_of(tree[3]), deep_of(tree[4]))


def slow_tree(row, end, box, bound, tree):
    """Return whether this is a bound tree, as the document tells it, of any depth."""
    if tree == "step":
        return ranges(row, box)[end][0] >= bound
    if tree == "rates":
        return by_rates(row, box)[end][0] >= bound
    if type(tree) is not tuple or len(tree) != 5 or tree[0] != "parted":
        return False
    unknown, number = tree[1:3]
    if type(unknown) is not int or not 0 <= unknown < len(box) or type(number) is not int:
        return False
    if not box[unknown][0] <= number < box[unknown][1]:
        return False
    return all(slow_tree(row, end, half, bound, part) for half, part in zip(parted(box, unknown, number), tree[3:]))


def slow_paper(row, end, box, value):
    if type(value) is not tuple or len(value) != 3 or type(value[0]) is not int or type(value[1]) is not tuple:
        return False
    bound, point, tree = value
    if len(point) != len(box) or not all(type(k) is int and low <= k <= high for k, (low, high) in zip(point, box)):
        return False
    return told(row, point)[end] == bound and slow_tree(row, end, box, bound, tree) and deep_of(tree) <= 40


def ladder(deep, last="step"):
    """Return a box of deep + 1 points of one input, and a tree just so deep that parts them one after another."""
    tree = last
    for number in reversed(range(deep)):
        tree = ("parted", 0, number, "step", tree)
    return ((0, deep),), tree


class LeastTest(unittest.TestCase):

    def check(self, row, end, box):
        pairs = [(told(row, point)[end], point) for point in points_of(box)]
        values = [value for value, _ in pairs]
        for found, value in ((least(row, end, box), min(values)), (greatest(row, end, box), max(values))):
            first = [point for worth, point in pairs if worth == value][0]
            self.assertEqual(found, (value, first))
            self.assertEqual([type(found), type(found[1])], [tuple, tuple])
        found = signs(row, end, box)
        self.assertEqual(found, tuple(sorted({(value > 0) - (value < 0) for value in values})))
        self.assertEqual([type(sign) for sign in found], [int] * len(found))
        paper = least_paper(row, end, box)
        self.assertIs(is_least_paper(row, end, box, paper), True)
        self.assertIs(slow_paper(row, end, box, paper), True)
        self.assertEqual([paper[0], least_paper(row, end, box)], [min(values), paper])
        self.assertLessEqual(deep_of(paper[2]), 40)
        return paper

    def test_examples(self):
        self.assertEqual([least(R, 0, B), greatest(R, 0, B), signs(R, 0, B), signs(R, 1, B)],
                         [(-5, (-1, 4)), (10, (2, 4)), (-1, 0, 1), (1,)])
        self.assertIs(is_least_paper(R, 0, B, least_paper(R, 0, B)), True)

    def test_the_first_one_of_several_points(self):
        box = ((-3, 3),)
        self.assertEqual([least(SQUARE, 0, box), greatest(SQUARE, 0, box)], [(0, (0,)), (9, (-3,))])
        contrary = (1, SQUARE[1] + (("neg", 1),), (2,))
        self.assertEqual([least(contrary, 0, box), greatest(contrary, 0, box)], [(-9, (-3,)), (0, (0,))])
        flat = (3, (("set", 7),), (0,))
        box = ((-1, 1), (2, 3), (-5, -4))
        self.assertEqual([least(flat, 0, box), greatest(flat, 0, box)], [(7, (-1, 2, -5)), (7, (-1, 2, -5))])
        product_row = (2, (("in", 0), ("in", 1), ("*", 0, 1)), (2,))
        self.assertEqual([least(product_row, 0, ((-2, 2), (-2, 2))), greatest(product_row, 0, ((-2, 2), (-2, 2)))],
                         [(-4, (-2, 2)), (4, (-2, -2))])

    def test_signs_with_and_without_nought(self):
        line = (1, (("in", 0),), (0,))
        for box, wanted in ((((-2, 2),), (-1, 0, 1)), (((-2, -1),), (-1,)), (((0, 0),), (0,)), (((0, 3),), (0, 1)),
                            (((-3, 0),), (-1, 0)), (((5, 6),), (1,))):
            self.assertEqual(signs(line, 0, box), wanted)
        odd = (1, (("in", 0), ("+", 0, 0), ("set", 1), ("-", 1, 2)), (3,))
        self.assertEqual(signs(odd, 0, ((-5, 5),)), (-1, 1))

    def test_boxes_of_a_single_point(self):
        for seed in range(20):
            row = random_row(seed, 2, 12, 2, most=5)
            point = (seed - 7, 3 * seed - 20)
            paper = self.check(row, seed % 2, tuple((k, k) for k in point))
            self.assertEqual(paper, (told(row, point)[seed % 2], point, "step"))

    def test_rows_without_inputs(self):
        for end, value in ((0, -9), (1, 3), (2, -9)):
            self.assertEqual(self.check(NO_INPUTS, end, ()), (value, (), "step"))

    def test_random_rows_and_boxes(self):
        parts = 0
        for seed in range(80):
            many = 1 + seed % 4
            row = random_row(seed, many, 15, 2, most=5)
            paper = self.check(row, seed % 2, random_box(seed, many))
            parts += paper[2] != "step"
        self.assertGreater(parts, 15)

    def test_steps_that_no_end_needs(self):
        row = (1, (("in", 0), ("*", 0, 0), ("*", 1, 1), ("neg", 0)), (3, 0))
        self.assertEqual(self.check(row, 0, ((2, 5),))[:2], (-5, (5,)))

    def test_far_from_nought(self):
        far = ((10 ** 20 - 3, 10 ** 20), (-10 ** 20, 1 - 10 ** 20))
        self.assertEqual(self.check(R, 0, far)[:2], (10 ** 20 * -10 ** 20 + 10 ** 20, (10 ** 20, -10 ** 20)))

    def test_valleys(self):
        self.assertEqual(self.check(VALLEY, 0, ((-20, 20),))[:2], (-4, (2,)))
        self.assertEqual(greatest(VALLEY, 0, ((-20, 20),)), (480, (-20,)))

    def test_just_as_many_points_as_may_be(self):
        for box in (((-1000, 999),), ((0, 39), (5, 54)), ((0, 4),) * 4 + ((0, 0), (7, 7), (0, 1)) + ((1, 1),)):
            row = random_row(3 + len(box), len(box), 30, 1, most=4)
            self.assertLessEqual(point_count(box), 2000)
            self.check(row, 0, box)
        self.assertEqual(least(SQUARE, 0, ((-1000, 999),)), (0, (0,)))

    def test_one_point_more(self):
        for row, box in ((SQUARE, ((-1000, 1000),)), (R, ((1, 3), (1, 667))), (R, ((-10 ** 20, 10 ** 20), (0, 0)))):
            self.assertGreater(point_count(box), 2000)
            for call in (least, greatest, signs, least_paper):
                with self.assertRaises(TooGreat) as caught:
                    call(row, 0, box)
                self.assertEqual(caught.exception.limit, 2000)

    def test_the_greatest_row(self):
        row = full_row()
        self.assertIsNone(row_error(row))
        box = ((0, 2), (-1, 1), (5, 6), (0, 0), (-3, -1), (1, 1), (2, 2), (0, 3))
        for end in (0, 7):
            self.check(row, end, box)


class PaperTest(unittest.TestCase):

    def test_examples(self):
        self.assertEqual([is_least_paper(R, 0, B, (-5, (-1, 4), "step")), is_least_paper(R, 0, B, (-5, (-1, 4), "rates")),
                          is_least_paper(R, 0, B, (-4, (-1, 3), "step")),
                          is_least_paper(R, 0, B, (-5, (-1, 4), ("parted", 0, -1, "step", "rates")))],
                         [True, False, False, True])

    def test_bounds_that_are_too_great_by_one(self):
        for row, end, box in ((R, 0, B), (VALLEY, 0, ((0, 5),)), (SQUARE, 0, ((-3, 3),))):
            value, point, tree = least_paper(row, end, box)
            for other in (-1, 1):
                self.assertIs(is_least_paper(row, end, box, (value + other, point, tree)), False)
            worse = [one for one in points_of(box) if told(row, one)[end] != value][0]
            self.assertIs(is_least_paper(row, end, box, (told(row, worse)[end], worse, tree)), False)

    def test_each_point_with_the_least_value_will_do(self):
        box = ((-3, 3), (0, 0))
        row = (2, (("in", 0), ("*", 0, 0), ("*", 1, 1), ("in", 1), ("*", 2, 3)), (4,))
        for number in range(-3, 4):
            self.assertIs(is_least_paper(row, 0, box, (0, (number, 0), "step")), True)

    def test_rates_where_step_does_not_do(self):
        # 3 * x - x: by its steps it seems to come lower than it does; by its rates it does not.
        row = (1, (("in", 0), ("*", 0, 0), ("+", 1, 0)), (2,))
        less = (1, (("in", 0), ("set", 3), ("*", 0, 1), ("-", 2, 0)), (3,))
        box = ((-1, 5),)
        self.assertEqual([is_least_paper(less, 0, box, (-2, (-1,), "step")),
                          is_least_paper(less, 0, box, (-2, (-1,), "rates"))], [False, True])
        self.assertEqual([is_least_paper(row, 0, ((2, 6),), (6, (2,), word)) for word in ("step", "rates")], [True, False])
        self.assertIs(is_least_paper(less, 0, box, (-2, (-1,), ("parted", 0, 1, "rates", "rates"))), True)
        self.assertIs(is_least_paper(less, 0, box, (-2, (-1,), ("parted", 0, 1, "rates", "step"))), True)
        self.assertIs(is_least_paper(less, 0, box, (-2, (-1,), ("parted", 0, 1, "step", "rates"))), False)

    def test_parts_that_are_exchanged(self):
        tree = ("parted", 0, -1, "step", "rates")
        self.assertIs(is_least_paper(R, 0, B, (-5, (-1, 4), tree)), True)
        less = (1, (("in", 0), ("set", 3), ("*", 0, 1), ("-", 2, 0)), (3,))
        one = ("parted", 0, -1, "step", ("parted", 0, 1, "rates", "rates"))
        self.assertIs(is_least_paper(less, 0, ((-1, 5),), (-2, (-1,), one)), True)
        other = one[:3] + (one[4], one[3])
        self.assertIs(is_least_paper(less, 0, ((-1, 5),), (-2, (-1,), other)), False)

    def test_numbers_at_which_boxes_are_parted(self):
        box = ((0, 2), (5, 5))
        for unknown, number, right in ((0, 0, True), (0, 1, True), (0, 2, False), (0, -1, False), (1, 5, False), (1, 4, False),
                                       (2, 0, False), (-1, 5, False), (False, 0, False), (0, False, False), (None, 0, False),
                                       (0, None, False), ("0", 0, False), (HUGE, 0, False), (0, HUGE, False)):
            self.assertIs(is_least_paper(R, 1, box, (5, (0, 5), ("parted", unknown, number, "step", "step"))), right)

    def test_points_outside_the_box(self):
        self.assertEqual([is_least_paper(SQUARE, 1, ((3, 9),), (number, (number,), "step")) for number in (3, 2, 4, 10)],
                         [True, False, False, False])
        for point in ((), (3, 3), [3], 3, (True,), None, ("3",)):
            self.assertIs(is_least_paper(SQUARE, 1, ((3, 9),), (3, point, "step")), False)
        self.assertIs(is_least_paper(SQUARE, 1, ((1, 9),), (1, (True,), "step")), False)
        self.assertIs(is_least_paper(SQUARE, 1, ((1, 9),), (True, (1,), "step")), False)

    def test_trees_of_any_depth(self):
        for deep, right in ((0, True), (1, True), (39, True), (40, True), (41, False), (60, False)):
            box, tree = ladder(deep)
            self.assertEqual(deep_of(tree), deep)
            self.assertIs(is_least_paper(SQUARE, 0, box, (0, (0,), tree)), right, deep)
            self.assertIs(is_least_paper(SQUARE, 1, ((0, deep + 7),), (0, (0,), ("parted", 0, deep + 2, tree, "step"))), deep < 40)
        box, tree = ladder(40, "rates")
        self.assertIs(is_least_paper(SQUARE, 0, box, (0, (0,), tree)), True)
        deep = ("parted", 0, 500, "step", ladder(40)[1])
        self.assertIs(is_least_paper(SQUARE, 0, ((-400, 900),), (0, (0,), deep)), False)

    def test_boxes_of_however_many_points(self):
        box = ((-10 ** 20, 10 ** 20), (3, 10 ** 20))
        self.assertIs(is_least_paper(R, 1, box, (3, (-7, 3), "step")), True)
        self.assertIs(is_least_paper(R, 1, box, (3, (-7, 3), ("parted", 1, 10 ** 19, "step", "rates"))), True)
        self.assertIs(is_least_paper(R, 0, box, (-10 ** 40 - 10 ** 20, (-10 ** 20, 10 ** 20), "step")), True)

    def test_bent_values(self):
        for row, end, box in ((R, 0, B), (R, 1, B), (VALLEY, 0, ((-1, 5),)), (NO_INPUTS, 0, ()), (SQUARE, 0, ((0, 1),))):
            holding = 0
            for value in bent(least_paper(row, end, box)):
                found = is_least_paper(row, end, box, value)
                self.assertIs(found, slow_paper(row, end, box, value), value)
                holding += found
            self.assertLess(holding, 60)
            self.assertIs(is_least_paper(row, end, box, lists_of(least_paper(row, end, box))), False)

    def test_odd_values(self):
        for value in ODD:
            self.assertIs(is_least_paper(R, 0, B, value), False)
            self.assertIs(is_least_paper(R, 0, B, (value, (-1, 4), "step")), False)
            self.assertIs(is_least_paper(R, 0, B, (-5, value, "step")), False)
            self.assertIs(is_least_paper(R, 0, B, (-5, (-1, 4), value)), False)
            self.assertIs(is_least_paper(R, 0, B, (-5, (-1, 4), ("parted", 0, 0, value, "step"))), False)
        for word in ("steps", "rate", "", "STEP", "parted", ("step",), b"step"):
            self.assertIs(is_least_paper(R, 0, B, (-5, (-1, 4), word)), False)


class AllTest(unittest.TestCase):

    def test_no_point_of_the_box_has_a_lesser_value(self):
        """Whatever paper holds: made of bent ones of other rows and boxes."""
        held = 0
        for seed in range(40):
            many = 1 + seed % 2
            row, box = random_row(seed, many, 10, 1, most=3), random_box(seed, many, 4)
            truth = min(told(row, point)[0] for point in points_of(box))
            for other in range(6):
                near = random_row(seed if other else seed + 1, many, 10, 1, most=3)
                paper = least_paper(near, 0, random_box(seed + other, many, 4) if other else box)
                for point in points_of(box):
                    if is_least_paper(row, 0, box, (told(row, point)[0], point, paper[2])):
                        self.assertEqual(told(row, point)[0], truth)
                        held += 1
        self.assertGreater(held, 40)

    def test_parted_boxes_and_rows_made_of_rows(self):
        for seed in range(30):
            row, box = random_row(seed, 2, 12, 2, most=4), random_box(seed, 2, 4)
            low, high = box[0]
            for end in range(2):
                value, point = least(row, end, box)
                if low < high:
                    halves = parted(box, 0, low)
                    self.assertEqual(min(least(row, end, half) for half in halves), (value, point))
                    tree = ("parted", 0, low) + tuple(least_paper(row, end, half)[2] for half in halves)
                    for half, part in zip(halves, tree[3:]):
                        self.assertIs(slow_tree(row, end, half, least(row, end, half)[0], part), True)
                self.assertEqual([least(slim(row), end, box), ranges(slim(row), box)[end]], [(value, point), ranges(row, box)[end]])
                turned = renamed(row, 2, (1, 0))
                self.assertEqual(least(turned, end, box[::-1])[0], value)
                self.assertEqual(ranges(turned, box[::-1]), ranges(row, box))
                one = renamed(row, 1, (0, 0))
                self.assertEqual(least(one, end, box[:1])[0],
                                 min(told(row, (k, k))[end] for k in range(low, high + 1)))
                both = beside(row, row)
                if point_count(box) ** 2 <= 2000:
                    self.assertEqual(least(both, end + 2, box + box), (value, tuple(k for k, _ in box) + point))
            twice = fed(row, R)
            self.assertIs(is_box(twice, box), True)
            self.assertEqual(ranges(twice, box), ranges(R, ranges(row, box)))
            self.assertEqual(least(twice, 1, box), least(row, 1, box))

    def test_nothing_that_is_passed_is_changed(self):
        before = repr((R, B))
        value = [-5, [-1, 4], ["parted", 0, -1, "step", "rates"]]
        copy = repr(value)
        is_least_paper(R, 0, B, value)
        for call in (least, greatest, signs, least_paper):
            self.assertEqual(call(R, 0, B), call(R, 0, B))
        self.assertEqual([repr((R, B)), repr(value)], [before, copy])

    def test_arguments_by_name(self):
        self.assertEqual([least(box=B, end=1, row=R), greatest(box=B, end=1, row=R), signs(box=B, end=1, row=R)],
                         [(3, (-1, 3)), (4, (-1, 4)), (1,)])
        self.assertIs(is_least_paper(value=least_paper(box=B, end=1, row=R), box=B, end=1, row=R), True)


if __name__ == "__main__":
    unittest.main()
