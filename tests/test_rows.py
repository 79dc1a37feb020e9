import unittest

from helper import ODD, HUGE, bent, chain, lists_of, random_point, random_row, step_size
from rowsback.bounds import MAX_NUMBER
from rowsback.rows import degrees, is_point, long_error, needed, row_error, sizes, told, values

R = (2, (("in", 0), ("in", 1), ("*", 0, 1), ("+", 2, 0), ("set", 7), ("*", 3, 3)), (5, 2))
SHORT = (1, (("in", 0), ("set", 2), ("neg", 1), ("+", 0, 1), ("-", 2, 0), ("*", 3, 4)), (5, 5))


def is_count(value, low, high):
    return type(value) is int and low <= value <= high


def may_stand(step, number, inputs):
    """Return whether the step may have the number: read off the document once more, word by word."""
    if type(step) is not tuple or len(step) not in (2, 3) or type(step[0]) is not str:
        return False
    if len(step) == 3:
        return step[0] in "+ - *".split() and is_count(step[1], 0, number - 1) and is_count(step[2], 0, number - 1)
    if step[0] == "set":
        return is_count(step[1], -10 ** 20, 10 ** 20)
    return step[0] == "in" and is_count(step[1], 0, inputs - 1) or step[0] == "neg" and is_count(step[1], 0, number - 1)


def slow_error(value, inputs, steps, ends):
    if type(value) is not tuple or len(value) != 3:
        return (None, "row")
    if not is_count(value[0], 0, inputs):
        return (None, "inputs")
    if type(value[1]) is not tuple or len(value[1]) not in range(1, steps + 1):
        return (None, "steps")
    reached = []
    for number, step in enumerate(value[1]):
        if not may_stand(step, number, value[0]):
            return (number, "step")
        reached.append(step_size(step, reached))
        if reached[-1] > 64:
            return (number, "size")
    if type(value[2]) is not tuple or len(value[2]) not in range(1, ends + 1):
        return (None, "ends")
    if [end for end in value[2] if not is_count(end, 0, len(value[1]) - 1)]:
        return (None, "ends")
    return None


class RowErrorTest(unittest.TestCase):

    def test_examples(self):
        self.assertIsNone(row_error(R))
        self.assertEqual(row_error((1, (("in", 1),), (0,))), (0, "step"))
        self.assertEqual(row_error((1, (("in", 0), ("neg", 1)), (0,))), (1, "step"))
        self.assertIsNone(long_error((9, (("in", 8),), (0,))))
        self.assertEqual(row_error((9, (("in", 8),), (0,))), (None, "inputs"))

    def test_no_triple(self):
        for value in (None, (), (1, (("in", 0),)), R + (0,), list(R), "row", {0: 1}):
            self.assertEqual(row_error(value), (None, "row"))
            self.assertEqual(long_error(value), (None, "row"))

    def test_inputs(self):
        for inputs in (-1, True, False, None, "1", (1,), [1], 10 ** 39, HUGE):
            self.assertEqual(row_error((inputs, (), ())), (None, "inputs"))
            self.assertEqual(long_error((inputs, (), ())), (None, "inputs"))

    def test_bounds_of_rows(self):
        self.check_bounds(row_error, 8, 60, 8)

    def test_bounds_of_long_rows(self):
        self.check_bounds(long_error, 20, 400, 20)

    def check_bounds(self, error, inputs, steps, ends):
        step = ("set", 1)
        self.assertIsNone(error((inputs, (step,) * steps, (0,) * ends)))
        self.assertIsNone(error((0, (step,), (0,))))
        self.assertEqual(error((inputs + 1, (step,), (0,))), (None, "inputs"))
        self.assertEqual(error((inputs, (step,) * (steps + 1), (0,))), (None, "steps"))
        self.assertEqual(error((inputs, (), (0,))), (None, "steps"))
        self.assertEqual(error((inputs, (step,), (0,) * (ends + 1))), (None, "ends"))
        self.assertEqual(error((inputs, (step,), ())), (None, "ends"))
        self.assertIsNone(error((inputs, (step,) * steps, (steps - 1,))))
        self.assertEqual(error((inputs, (step,) * steps, (steps,))), (None, "ends"))
        self.assertIsNone(error((inputs, (("in", inputs - 1),), (0,))))
        self.assertEqual(error((inputs, (("in", inputs),), (0,))), (0, "step"))

    def test_steps_are_a_tuple(self):
        for steps in ([("in", 0)], None, {0: ("in", 0)}, "in"):
            self.assertEqual(row_error((1, steps, (0,))), (None, "steps"))

    def test_ends_are_a_tuple_of_numbers_of_steps(self):
        for ends in ([0], None, (1,), (-1,), (True,), (False,), (0, None), ((0,),), 0):
            self.assertEqual(row_error((1, (("in", 0),), ends)), (None, "ends"))

    def test_rows_without_inputs(self):
        self.assertIsNone(row_error((0, (("set", 3), ("neg", 0)), (1, 0))))
        self.assertEqual(row_error((0, (("in", 0),), (0,))), (0, "step"))

    def test_what_is_no_step(self):
        wrong = (
            (), ("in",), ("in", 0, 0), ["in", 0], ("in", -1), ("in", True), ("in", 2), ("in", "0"), ("In", 0),
            ("set",), ("set", True), ("set", "1"), ("set", 0, 0), ("set", MAX_NUMBER + 1), ("set", -MAX_NUMBER - 1),
            ("neg",), ("neg", 2), ("neg", 0, 0), ("neg", -1), ("neg", False), ("+", 0), ("+", 0, 2), ("+", 2, 0),
            ("-", 0, 0, 0), ("*", True, 0), ("*", 0, False), ("/", 0, 0), ("", 0), (0, 0), (None, 0), ("+", 0, None),
            (("in",), 0), (["in"], 0), ({}, 0), None, "in", ("-", 0, -1), ("*", (0,), 0),
        )
        for step in wrong:
            row = (2, (("in", 0), ("in", 1), step, ("jump",)), ())
            self.assertEqual(row_error(row), (2, "step"), step)
            self.assertEqual(long_error(row), (2, "step"), step)

    def test_numbers_just_at_the_bound(self):
        for number in (MAX_NUMBER, -MAX_NUMBER):
            self.assertIsNone(row_error((0, (("set", number),), (0,))))

    def test_sizes_just_at_the_bound(self):
        steps = chain(64)
        self.assertIsNone(row_error((1, steps, (6,))))
        self.assertIsNone(row_error((1, steps + (("+", 6, 6), ("neg", 7)), (6,))))
        self.assertEqual(row_error((1, steps + (("*", 6, 0),), (6,))), (7, "size"))
        self.assertEqual(row_error((1, steps + (("set", 0), ("*", 6, 7)), (9,))), (8, "size"))
        self.assertEqual(long_error((1, steps + (("*", 0, 6), ("no",)), None)), (7, "size"))
        self.assertEqual(row_error((1, steps + (("no",), ("*", 6, 6)), None)), (7, "step"))

    def test_bent_values(self):
        count = 0
        for value in list(bent(R)) + list(bent(SHORT)) + [lists_of(R)]:
            self.assertEqual(row_error(value), slow_error(value, 8, 60, 8))
            self.assertEqual(long_error(value), slow_error(value, 20, 400, 20))
            count += row_error(value) is None
        self.assertGreater(count, 10)

    def test_random_rows(self):
        for seed in range(100):
            row = random_row(seed, seed % 9, 60, 8)
            self.assertIsNone(row_error(row))
            self.assertIsNone(long_error(row))


class IsPointTest(unittest.TestCase):

    def test_examples(self):
        self.assertIs(is_point(R, (3, 4)), True)
        self.assertIs(is_point(R, (3, True)), False)

    def test_edges(self):
        self.assertTrue(is_point(R, (MAX_NUMBER, -MAX_NUMBER)))
        for value in ((MAX_NUMBER + 1, 0), (0, -MAX_NUMBER - 1), (3,), (3, 4, 5), [3, 4], (3, "4"), (3, (4,)), None):
            self.assertIs(is_point(R, value), False)

    def test_rows_without_inputs(self):
        row = (0, (("set", 3),), (0,))
        self.assertIs(is_point(row, ()), True)
        self.assertIs(is_point(row, []), False)
        self.assertIs(is_point(row, (0,)), False)

    def test_long_rows(self):
        row = (20, (("in", 19),), (0,))
        self.assertTrue(is_point(row, (1,) * 20))
        self.assertFalse(is_point(row, (1,) * 19))

    def test_bent_values(self):
        for value in bent((3, 4)):
            right = type(value) is tuple and len(value) == 2 and all(is_count(k, -10 ** 20, 10 ** 20) for k in value)
            self.assertIs(is_point(R, value), right)


class ReckonedTest(unittest.TestCase):

    def test_examples(self):
        self.assertEqual(degrees(R), (1, 1, 2, 2, 0, 4))
        self.assertEqual(sizes(R), (1, 1, 2, 2, 1, 4))
        self.assertEqual(values(R, (3, 4)), (3, 4, 12, 15, 7, 225))
        self.assertEqual(told(R, (3, 4)), (225, 12))
        self.assertEqual(needed(R), (0, 1, 2, 3, 5))

    def test_each_word(self):
        self.assertEqual(values(SHORT, (5,)), (5, 2, -2, 7, -7, -49))
        self.assertEqual(degrees(SHORT), (1, 0, 0, 1, 1, 2))
        self.assertEqual(sizes(SHORT), (1, 1, 1, 1, 1, 2))
        self.assertEqual(told(SHORT, (5,)), (-49, -49))

    def test_sets_have_a_size_but_no_degree(self):
        row = (1, (("in", 0), ("set", 4), ("*", 1, 1), ("*", 2, 0), ("-", 2, 0), ("neg", 2)), (3,))
        self.assertEqual(degrees(row), (1, 0, 0, 1, 1, 0))
        self.assertEqual(sizes(row), (1, 1, 2, 3, 2, 2))
        self.assertEqual(values(row, (-3,)), (-3, 4, 16, -48, 19, -16))

    def test_rows_without_inputs(self):
        row = (0, (("set", 4), ("*", 0, 0)), (1, 0, 1))
        self.assertEqual([degrees(row), sizes(row), values(row, ()), told(row, ()), needed(row)],
                         [(0, 0), (1, 2), (4, 16), (16, 4, 16), (0, 1)])

    def test_a_step_may_stand_twice_in_one(self):
        row = (1, (("in", 0), ("-", 0, 0), ("+", 0, 0), ("*", 0, 0)), (1, 2, 3))
        self.assertEqual(told(row, (7,)), (0, 14, 49))

    def test_needed(self):
        row = (1, (("in", 0), ("set", 1), ("neg", 1), ("+", 0, 0), ("*", 2, 2)), (3,))
        self.assertEqual(needed(row), (0, 3))
        self.assertEqual(needed((1, row[1], (4, 4))), (1, 2, 4))
        self.assertEqual(needed((1, row[1], (0,))), (0,))

    def test_powers_of_just_the_size(self):
        row = (1, chain(64), (6,))
        self.assertEqual(told(row, (3,)), (3 ** 64,))
        self.assertEqual(told(row, (MAX_NUMBER,)), (10 ** 1280,))

    def test_long_rows(self):
        row = (20, tuple(("in", k) for k in range(20)) + tuple(("+", k, k + 1) for k in range(380)), (399,) * 20)
        self.assertIsNone(long_error(row))
        self.assertEqual(len(values(row, (1,) * 20)), 400)
        self.assertEqual(told(row, (0,) * 20), (0,) * 20)
        self.assertEqual([len(degrees(row)), max(sizes(row)), len(told(row, (1,) * 20))], [400, 1, 20])

    def test_random_rows_by_hand(self):
        for seed in range(60):
            row = random_row(seed, seed % 4, 30, 4)
            point = random_point(seed, row[0], 9)
            names = []
            for step in row[1]:
                parts = [f"({names[part]})" for part in step[1:]] if step[0] not in ("in", "set") else []
                if step[0] == "in":
                    names.append(str(point[step[1]]))
                elif step[0] == "set":
                    names.append(str(step[1]))
                elif step[0] == "neg":
                    names.append(str(eval("-" + parts[0])))
                else:
                    names.append(str(eval(step[0].join(parts))))
            self.assertEqual([str(value) for value in values(row, point)], names)
            self.assertEqual([str(value) for value in told(row, point)], [names[end] for end in row[2]])

    def test_kinds_of_what_is_returned(self):
        for value in (degrees(R), sizes(R), values(R, (1, 2)), told(R, (1, 2)), needed(R), row_error((1, (), ()))):
            self.assertIs(type(value), tuple)

    def test_arguments_by_name(self):
        self.assertIsNone(row_error(value=R))
        self.assertIsNone(long_error(value=R))
        self.assertTrue(is_point(row=R, value=(1, 2)))
        self.assertEqual(told(row=R, point=(3, 4)), (225, 12))
        self.assertEqual(values(point=(3, 4), row=R)[5], 225)
        self.assertEqual([len(degrees(row=R)), len(sizes(row=R)), len(needed(row=R))], [6, 6, 5])

    def test_odd_values_stay_as_they_were(self):
        before = repr([value for value in ODD if type(value) in (list, dict)])
        for value in ODD:
            row_error((1, (("in", 0), value), value))
        self.assertEqual(repr([value for value in ODD if type(value) in (list, dict)]), before)


if __name__ == "__main__":
    unittest.main()
