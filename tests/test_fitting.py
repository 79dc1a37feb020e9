import unittest

from helper import JUST, STEPS, chain, full_row, random_point, random_row
from rowsback.errors import TooLong, Unfit
from rowsback.fitting import beside, fed, renamed, slim
from rowsback.rows import long_error, needed, row_error, told

R = (2, (("in", 0), ("in", 1), ("*", 0, 1), ("+", 2, 0), ("set", 7), ("*", 3, 3)), (5, 2))
S = (1, (("in", 0), ("set", 2), ("*", 0, 1)), (2,))
T = (1, (("in", 0), ("in", 0), ("*", 0, 1), ("neg", 0)), (2, 2))


def ins(many):
    return tuple(("in", index) for index in range(many))


class SlimTest(unittest.TestCase):

    def test_examples(self):
        self.assertEqual(slim(T), (1, (("in", 0), ("*", 0, 0)), (1, 1)))

    def test_needless_steps_go(self):
        row = (2, (("in", 1), ("set", 4), ("in", 0), ("neg", 2), ("+", 2, 2), ("*", 3, 3)), (4,))
        self.assertEqual(slim(row), (2, (("in", 0), ("+", 0, 0)), (1,)))

    def test_needless_equal_steps_do_not_stand(self):
        row = (1, (("set", 1), ("in", 0), ("set", 1), ("+", 2, 1)), (3,))
        self.assertEqual(slim(row), (1, (("in", 0), ("set", 1), ("+", 1, 0)), (2,)))

    def test_steps_that_are_equal_behind_others_only(self):
        row = (1, (("in", 0), ("in", 0), ("neg", 0), ("neg", 1), ("*", 2, 3), ("*", 3, 2), ("-", 4, 5)), (6, 4, 5))
        self.assertEqual(slim(row), (1, (("in", 0), ("neg", 0), ("*", 1, 1), ("-", 2, 2)), (3, 2, 2)))

    def test_steps_the_other_way_about_are_others(self):
        row = (2, ins(2) + (("+", 0, 1), ("+", 1, 0), ("*", 0, 1), ("*", 1, 0)), (2, 3, 4, 5))
        self.assertEqual(slim(row), row)

    def test_ends_that_stand_twice(self):
        self.assertEqual(slim((1, (("set", 3), ("in", 0), ("in", 0)), (2, 1, 2, 0))),
                         (1, (("set", 3), ("in", 0)), (1, 1, 1, 0)))

    def test_rows_without_inputs(self):
        self.assertEqual(slim((0, (("set", 3), ("set", 3), ("-", 0, 1)), (2,))), (0, (("set", 3), ("-", 0, 0)), (1,)))

    def test_random_rows(self):
        for seed in range(80):
            long = seed % 2
            row = random_row(seed, 20 if long else seed % 4, 300 if long else 30, 5, most=8)
            made = slim(row)
            self.assertIsNone(long_error(made))
            self.assertEqual([made[0], len(made[2])], [row[0], len(row[2])])
            self.assertEqual(needed(made), tuple(range(len(made[1]))))
            self.assertEqual(len(dict.fromkeys(made[1])), len(made[1]))
            self.assertEqual(slim(made), made)
            point = random_point(seed, row[0], 10 ** 20)
            self.assertEqual(told(made, point), told(row, point))

    def test_step_by_step(self):
        for seed in range(40):
            row = random_row(seed, 2, 25, 3, most=4, biggest=1)
            steps, number_of = [], {}
            for number in needed(row):
                step = row[1][number]
                if step[0] not in ("in", "set"):
                    step = (step[0],) + tuple(number_of[part] for part in step[1:])
                if step not in steps:
                    steps.append(step)
                number_of[number] = steps.index(step)
            self.assertEqual(slim(row), (2, tuple(steps), tuple(number_of[end] for end in row[2])))


class FedTest(unittest.TestCase):

    def test_examples(self):
        self.assertEqual(fed(S, T), (1, (("in", 0), ("set", 2), ("*", 0, 1), ("*", 2, 2), ("neg", 2)), (3, 3)))
        with self.assertRaises(Unfit):
            fed(R, T)

    def test_an_end_of_other_that_is_an_input(self):
        self.assertEqual(fed(R, (2, (("in", 1), ("in", 0), ("set", 1)), (0, 1, 0, 2))),
                         (2, R[1] + (("set", 1),), (2, 5, 2, 6)))

    def test_needless_and_equal_steps_stay(self):
        one = (1, (("set", 1), ("in", 0), ("in", 0)), (2,))
        other = (1, (("set", 1), ("in", 0), ("set", 1), ("+", 1, 2)), (3,))
        self.assertEqual(fed(one, other), (1, one[1] + (("set", 1), ("set", 1), ("+", 2, 4)), (5,)))

    def test_rows_without_inputs(self):
        self.assertEqual(fed((0, (("set", 3),), (0,)), S), (0, (("set", 3), ("set", 2), ("*", 0, 1)), (2,)))
        for one in (S, R, (0, (("set", 3),), (0,))):
            with self.assertRaises(Unfit):
                fed(one, (0, (("set", 3),), (0,)))

    def test_more_ends_than_rows_have(self):
        made = fed(S, (1, ins(1), (0,) * 20))
        self.assertEqual(made, (1, S[1], (2,) * 20))

    def test_random_rows(self):
        for seed in range(60):
            many = 1 + seed % 5
            one = random_row(seed, seed % 3, 15, many, most=6)
            other = random_row(seed + 500, many, 15, 3, most=6)
            made = fed(one, other)
            self.assertIsNone(long_error(made))
            self.assertEqual(made[1][:15], one[1])
            self.assertEqual(len(made[1]), 30 - [step[0] for step in other[1]].count("in"))
            point = random_point(seed, one[0], 10 ** 20)
            self.assertEqual(told(made, point), told(other, told(one, point)))

    def test_as_many_steps_as_may_be(self):
        one = (1, ins(1) + (("neg", 0),) * 199, (199,))
        other = (1, ins(1) * 7 + (("neg", 0),) * 200, (206,))
        self.assertEqual(len(fed(one, other)[1]), 400)
        with self.assertRaises(TooLong):
            fed(one, (1, other[1] + (("set", 1),), (206,)))

    def test_as_great_steps_as_may_be(self):
        great = (1, chain(32), (5,))
        square = (1, ins(1) + (("*", 0, 0),), (1,))
        cube = (1, square[1] + (("*", 1, 0),), (0,))
        self.assertEqual(told(fed(great, square), (2,)), (2 ** 64,))
        with self.assertRaises(TooLong):
            fed(great, cube)
        with self.assertRaises(TooLong):
            fed((1, (("set", 0),) + chain(64)[1:], (6,)), square)
        self.assertEqual(fed(great, (1, ins(1) + (("set", 5), ("+", 0, 1)), (2,)))[2], (7,))

    def test_as_many_inputs_as_may_be(self):
        wide = (20, ins(20), tuple(range(20))[::-1])
        self.assertEqual(fed(wide, (20, ins(20), (0, 19)))[2], (19, 0))

    def test_unfit_comes_first(self):
        long = (1, ins(1) + (("set", 1),) * 399, (0,))
        with self.assertRaises(Unfit):
            fed((1, long[1], (0, 0)), long)
        with self.assertRaises(TooLong):
            fed(long, long)


class BesideTest(unittest.TestCase):

    def test_examples(self):
        self.assertEqual(beside(S, (1, (("in", 0), ("neg", 0)), (1,))),
                         (2, (("in", 0), ("set", 2), ("*", 0, 1), ("in", 1), ("neg", 3)), (2, 4)))

    def test_each_word(self):
        other = (2, (("in", 1), ("set", 4), ("neg", 0), ("+", 0, 1), ("-", 1, 0), ("*", 3, 4)), (5, 0))
        self.assertEqual(beside(S, other), (3, S[1] + (
            ("in", 2), ("set", 4), ("neg", 3), ("+", 3, 4), ("-", 4, 3), ("*", 6, 7)), (2, 8, 3)))

    def test_rows_without_inputs(self):
        bare = (0, (("set", 3),), (0,))
        self.assertEqual(beside(bare, bare), (0, (("set", 3), ("set", 3)), (0, 1)))
        self.assertEqual(beside(bare, S)[2], (0, 3))
        self.assertEqual(beside(S, bare), (1, S[1] + (("set", 3),), (2, 3)))

    def test_random_rows(self):
        for seed in range(40):
            one, other = random_row(seed, seed % 4, 12, 3, most=6), random_row(seed + 90, seed % 3, 9, 2, most=6)
            here, there = random_point(seed, one[0], 10 ** 20), random_point(seed, other[0], 10 ** 20)
            self.assertEqual(told(beside(one, other), here + there), told(one, here) + told(other, there))

    def test_just_each_bound(self):
        full = beside((10, ins(10) * 20, (0,) * 10), (10, ins(10) * 20, (199,) * 10))
        self.assertEqual([full[0], len(full[1]), len(full[2]), full[2][-1]], [20, 400, 20, 399])
        self.assertIsNone(long_error(full))
        self.assertEqual(beside(full_row(), full_row())[0], 16)

    def test_one_beyond_each_bound(self):
        one = (10, ins(10), (0,))
        for other in ((11, ins(1), (0,)), (1, ins(1) * 391, (0,)), (1, ins(1), (0,) * 20)):
            self.assertIsNone(long_error(other))
            with self.assertRaises(TooLong):
                beside(one, other)
            with self.assertRaises(TooLong):
                beside(other, one)
        for other in ((10, ins(1), (0,)), (1, ins(1) * 390, (0,)), (1, ins(1), (0,) * 19)):
            self.assertIsNone(long_error(beside(one, other)))

    def test_sizes_are_as_they_were(self):
        great = (1, chain(64), (6,))
        self.assertEqual(told(beside(great, great), (2, 1)), (2 ** 64, 1))


class RenamedTest(unittest.TestCase):

    def test_examples(self):
        self.assertEqual(renamed(R, 1, (0, 0))[1][:2], (("in", 0), ("in", 0)))

    def test_all_else_stays(self):
        self.assertEqual(renamed(R, 5, (4, 1)), (5, (("in", 4), ("in", 1)) + R[1][2:], (5, 2)))
        self.assertEqual(renamed(R, 20, (19, 0))[:2], (20, (("in", 19), ("in", 0)) + R[1][2:]))
        self.assertEqual(renamed(R, 2, (0, 1)), R)

    def test_several_inputs_in_one(self):
        row = (3, ins(3) + (("*", 0, 1), ("+", 3, 2)), (4,))
        self.assertEqual(told(renamed(row, 2, (1, 0, 1)), (5, 7)), (7 * 5 + 7,))
        self.assertEqual(told(renamed(row, 1, (0, 0, 0)), (5,)), (30,))

    def test_rows_without_inputs(self):
        bare = (0, (("set", 3),), (0,))
        self.assertEqual(renamed(bare, 0, ()), bare)
        self.assertEqual(renamed(bare, 20, ()), (20, bare[1], (0,)))

    def test_as_many_inputs_as_may_be(self):
        row = (20, ins(20), tuple(range(20)))
        order = tuple((7 * index) % 20 for index in range(20))
        self.assertEqual(told(renamed(row, 20, order), tuple(range(20))), order)


class AllTest(unittest.TestCase):

    def test_nothing_that_is_passed_is_changed_and_equal_calls_tell_the_same(self):
        before = repr((R, S, T, JUST))
        for _ in range(2):
            self.assertEqual(repr((slim(R), fed(S, T), beside(R, T), renamed(R, 3, (2, 2)))),
                             repr((slim(R), fed(S, T), beside(R, T), renamed(R, 3, (2, 2)))))
        self.assertEqual(repr((R, S, T, JUST)), before)

    def test_what_is_told_are_tuples(self):
        for row in (slim(R), fed(S, T), beside(R, T), renamed(R, 3, (2, 2)), slim((2, STEPS, (3,)))):
            self.assertIsNone(long_error(row))
        self.assertIsNone(row_error(slim(R)))

    def test_arguments_by_name(self):
        self.assertEqual(slim(row=T), slim(T))
        self.assertEqual(fed(other=T, one=S), fed(S, T))
        self.assertEqual(beside(other=T, one=S), beside(S, T))
        self.assertEqual(renamed(order=(0, 0), inputs=1, row=R), renamed(R, 1, (0, 0)))


if __name__ == "__main__":
    unittest.main()
