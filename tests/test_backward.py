import unittest

from helper import BEYOND, FULL, JUST, MORE, NARROW, STEPS, TAKEN_AWAY
from helper import bent, chain, full_row, lists_of, random_point, random_row
from rowsback.backward import backward, is_backward
from rowsback.errors import TooWide
from rowsback.rates import rates_at
from rowsback.rows import long_error, row_error, told

Q = (2, (("in", 0), ("in", 1), ("*", 0, 1), ("+", 2, 0)), (3, 1))
B = (4, (("in", 0), ("in", 1), ("in", 2), ("in", 3), ("*", 2, 1), ("+", 4, 2), ("*", 2, 0), ("+", 6, 3)), (5, 7))


class BackwardTest(unittest.TestCase):

    def check(self, row):
        """Look at a backward row by its values alone."""
        made = backward(row)
        inputs, _, ends = row
        self.assertIsNone(long_error(made))
        self.assertEqual([made[0], len(made[2])], [inputs + len(ends), inputs])
        self.assertLessEqual(len(made[1]), 5 * len(row[1]) + 2 * len(ends) + 1)
        for seed in range(3):
            point = random_point(seed, inputs, 10 ** 20)
            weights = random_point(seed + 9, len(ends), 10 ** 20)
            rates = rates_at(row, point)
            pulls = tuple(sum(k * some[index] for k, some in zip(weights, rates)) for index in range(inputs))
            self.assertEqual(told(made, point + weights), pulls)
        self.assertEqual(backward(row), made)
        return made

    def test_examples(self):
        self.assertIs(is_backward(Q, backward(Q)), True)
        self.assertIs(is_backward(Q, B), True)
        self.assertLessEqual(len(backward(Q)[1]), 25)
        self.assertIs(is_backward(Q, Q), False)

    def test_each_word(self):
        for step in (("in", 1), ("set", 4), ("neg", 0), ("+", 0, 1), ("-", 0, 1), ("*", 0, 1), ("*", 1, 1),
                     ("-", 0, 0), ("+", 0, 0), ("+", 2, 0), ("-", 2, 0), ("-", 0, 2), ("*", 2, 0), ("*", 0, 2),
                     ("*", 2, 2), ("neg", 2)):
            for ends in ((3,), (3, 3), (3, 0, 3), (2, 3), (1, 0)):
                row = (2, (("in", 0), ("in", 1), ("set", 7), step), ends)
                self.assertIs(is_backward(row, self.check(row)), True)

    def test_inputs_that_no_end_hangs_on(self):
        row = (3, (("in", 1), ("set", 2)), (1, 0, 1))
        made = self.check(row)
        self.assertEqual(told(made, (4, 5, 6, 7, 8, 9)), (0, 8, 0))
        self.assertIs(is_backward(row, made), True)
        self.assertIs(is_backward((2, (("set", 2),), (0,)), backward((2, (("set", 2),), (0,)))), True)

    def test_an_input_that_many_steps_name(self):
        row = (1, (("in", 0),) * 5 + (("*", 0, 1), ("*", 5, 2), ("-", 6, 3), ("*", 7, 4)), (8, 0, 1))
        self.assertIs(is_backward(row, self.check(row)), True)

    def test_steps_that_many_others_use(self):
        row = (2, (("in", 0), ("in", 1), ("*", 0, 1), ("-", 2, 2), ("*", 2, 2), ("-", 4, 2), ("neg", 2), ("*", 5, 6)),
               (7, 2, 3, 2))
        self.assertIs(is_backward(row, self.check(row)), True)

    def test_random_rows(self):
        judged = 0
        for seed in range(60):
            row = random_row(seed, 1 + seed % 4, 12, 3, most=4)
            made = self.check(row)
            try:
                self.assertIs(is_backward(row, made), True)
                judged += 1
            except TooWide:
                continue
        self.assertGreater(judged, 50)

    def test_as_many_of_all_as_may_be(self):
        row = full_row()
        self.assertIsNone(row_error(row))
        self.check(row)
        for ends in ((59,) * 8, (0,) * 8, tuple(range(52, 60))):
            products = (8, (("in", 0),) + (("*", 0, 0),) * 59, ends)
            made = self.check(products)
            self.assertLessEqual(len(made[1]), 317)
            self.assertIs(is_backward(products, made), True)
        for seed in range(20):
            self.check(random_row(seed, 8, 60, 8))

    def test_greatest_size(self):
        for ends in ((6,), (6, 0, 6), (6, 5)):
            row = (1, chain(64), ends)
            self.assertIs(is_backward(row, self.check(row)), True)
        sets = (1, (("in", 0), ("set", 1)) + tuple(("*", k, k) for k in range(1, 6)) + (("+", 6, 0), ("*", 7, 7)), (8,))
        self.assertIs(is_backward(sets, self.check(sets)), True)
        slow = (1, (("in", 0),) + tuple(("*", k, 0) for k in range(59)), (59,))
        self.assertIs(is_backward(slow, self.check(slow)), True)

    def test_too_wide(self):
        narrow = (3, (("in", 0),), (0, 0))
        with self.assertRaises(TooWide):
            is_backward(TAKEN_AWAY, narrow)
        with self.assertRaises(TooWide):
            is_backward((2, (("in", 0),), (0,)), (3, STEPS, (0, MORE)))
        for value in (None, TAKEN_AWAY, (2, narrow[1], (0, 0)), (3, narrow[1], (0,)), (3, narrow[1], [0, 0])):
            self.assertIs(is_backward(TAKEN_AWAY, value), False)
        self.assertIs(is_backward(JUST, (3, STEPS, (FULL, NARROW))), False)

    def test_wide_rows_that_are_judged(self):
        self.assertIs(is_backward(JUST, backward(JUST)), True)

    def test_backward_raises_nothing(self):
        self.check(TAKEN_AWAY)
        self.check(BEYOND)

    def test_other_rows(self):
        for ends in ((7, 5), (5, 5), (4, 7), (5, 6), (5,), (5, 7, 7)):
            self.assertIs(is_backward(Q, (4, B[1], ends)), False)
        self.assertIs(is_backward(Q, (5, B[1], (5, 7))), False)
        longer = (4, B[1] + (("set", 1),) * 392, (5, 7))
        self.assertIs(is_backward(Q, longer), True)
        self.assertIs(is_backward(Q, (4, longer[1] + (("set", 1),), (5, 7))), False)
        weights_swapped = (4, B[1][:2] + (("in", 3), ("in", 2)) + B[1][4:], (5, 7))
        self.assertIs(is_backward(Q, weights_swapped), False)

    def test_rows_without_inputs_have_none(self):
        self.assertIs(is_backward((0, (("set", 3),), (0,)), (1, (("in", 0),), (0,))), False)
        self.assertIs(is_backward((0, (("set", 3),), (0,)), (1, (("in", 0),), ())), False)

    def test_bent_values(self):
        made = backward(Q)
        judged = {True: 0, False: 0}
        for value in list(bent(made)) + list(bent(B)) + [lists_of(made), lists_of(B)]:
            found = is_backward(Q, value)
            self.assertIs(type(found), bool)
            judged[found] += 1
            if found:
                self.assertEqual(told(value, (2, 3, 5, 7)), told(made, (2, 3, 5, 7)))
        self.assertGreater(judged[False], 100)

    def test_nothing_that_is_passed_is_changed(self):
        before = repr((Q, B))
        self.assertEqual(backward(Q), backward(Q))
        value = lists_of(B)
        is_backward(Q, value)
        self.assertEqual([repr((Q, B)), value], [before, lists_of(B)])

    def test_arguments_by_name(self):
        self.assertTrue(is_backward(row=Q, value=backward(row=Q)))


if __name__ == "__main__":
    unittest.main()
