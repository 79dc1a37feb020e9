import unittest

from helper import BEYOND, JUST, STEPS, TAKEN_AWAY, chain, random_point, random_row
from rowsback.bounds import MAX_NUMBER
from rowsback.errors import NotStraight, TooWide
from rowsback.rows import degrees, long_error, told
from rowsback.sames import polys
from rowsback.straight import is_plain, is_straight, row_of, table_of

S = (2, (("in", 0), ("in", 1), ("set", 3), ("*", 1, 2), ("-", 0, 3), ("+", 4, 2)), (5, 1, 1))
P = (1, (("in", 0), ("*", 0, 0), ("-", 1, 1), ("+", 2, 0)), (3,))
SQUARE = (1, (("in", 0), ("*", 0, 0)), (1,))


class IsStraightTest(unittest.TestCase):

    def test_examples(self):
        self.assertIs(is_straight(P), True)
        self.assertIs(is_plain(P), False)
        self.assertIs(is_plain(S), True)

    def test_powers(self):
        steps = (("in", 0), ("in", 1), ("*", 0, 1), ("set", 4), ("*", 0, 3), ("*", 0, 0), ("-", 5, 5))
        for end, straight in ((0, True), (2, False), (3, True), (4, True), (5, False), (6, True)):
            self.assertIs(is_straight((2, steps, (end,))), straight)
            self.assertIs(is_straight((2, steps, (0, end))), straight)
        self.assertIs(is_straight((2, steps, (0, 1, 4, 2))), False)

    def test_what_falls_away(self):
        row = (2, (("in", 0), ("in", 1), ("*", 0, 1), ("+", 2, 0), ("-", 3, 2), ("set", 0), ("*", 5, 2)), (4, 6))
        self.assertIs(is_straight(row), True)
        self.assertEqual(table_of(row), (((1, 0), (0, 0)), (0, 0)))

    def test_plain_looks_at_all_steps(self):
        self.assertIs(is_plain((1, SQUARE[1], (0,))), False)
        self.assertIs(is_straight((1, SQUARE[1], (0,))), True)
        self.assertIs(is_plain((1, (("in", 0), ("set", 3), ("*", 0, 1), ("*", 1, 1), ("*", 2, 3)), (4,))), True)

    def test_without_inputs(self):
        row = (0, (("set", 3), ("*", 0, 0)), (1, 0))
        self.assertEqual([is_straight(row), is_plain(row), table_of(row)], [True, True, (((), ()), (9, 3))])

    def test_plain_rows_are_straight(self):
        for seed in range(60):
            row = random_row(seed, seed % 5, 20, 4, most=3)
            if is_plain(row):
                self.assertIs(is_straight(row), True)
            wide = max(degrees(row)) > 1
            self.assertIs(is_plain(row), not wide)
            self.assertIs(is_straight(row), all(sum(powers) < 2 for poly in polys(row) for powers, _ in poly))

    def test_too_wide(self):
        for row in (BEYOND, TAKEN_AWAY):
            for work in (is_straight, table_of):
                with self.assertRaises(TooWide):
                    work(row)
            self.assertIs(is_plain(row), False)
        self.assertIs(is_straight(JUST), False)
        with self.assertRaises(NotStraight):
            table_of(JUST)
        nought = len(STEPS)
        back = (2, STEPS + (("*", TAKEN_AWAY[2][0], 2), ("-", TAKEN_AWAY[2][0], nought)), (nought + 1,))
        with self.assertRaises(TooWide):
            table_of(back)


class TableOfTest(unittest.TestCase):

    def test_examples(self):
        self.assertEqual(table_of(S), (((1, -3), (0, 1), (0, 1)), (3, 0, 0)))
        self.assertEqual(table_of(P), (((1,),), (0,)))
        with self.assertRaises(NotStraight):
            table_of(SQUARE)

    def test_values(self):
        for seed in range(80):
            row = random_row(seed, seed % 5, 15, 4, most=2)
            if not is_straight(row):
                with self.assertRaises(NotStraight):
                    table_of(row)
                continue
            table, column = table_of(row)
            self.assertEqual(told(row, (0,) * row[0]), column)
            point = random_point(seed, row[0], 10 ** 20)
            sums = [sum(factor * k for factor, k in zip(factors, point)) for factors in table]
            self.assertEqual(told(row, point), tuple(map(sum, zip(sums, column))))

    def test_ends_that_are_set_or_stand_twice(self):
        self.assertEqual(table_of((2, (("in", 1), ("set", -8)), (1, 0, 0, 1))),
                         (((0, 0), (0, 1), (0, 1), (0, 0)), (-8, 0, 0, -8)))

    def test_numbers_beyond_the_bound(self):
        row = (1, (("in", 0), ("set", MAX_NUMBER), ("*", 0, 1), ("*", 2, 1), ("*", 1, 1)), (3, 4))
        self.assertEqual(table_of(row), (((10 ** 40,), (0,)), (0, 10 ** 40)))

    def test_long_rows(self):
        row = (20, tuple(("in", k) for k in range(20)) + tuple(("+", k, k + 1) for k in range(19)), tuple(range(19, 39)))
        table, column = table_of(row)
        self.assertEqual([len(table), len(table[0]), column], [20, 20, (0,) * 20])
        self.assertEqual(table[1], (1, 1) + (0,) * 18)
        self.assertIs(is_plain(row), True)
        self.assertIs(is_straight((1, chain(64), (6,))), False)


class RowOfTest(unittest.TestCase):

    def check(self, inputs, table, column):
        row = row_of(inputs, table, column)
        self.assertIsNone(long_error(row))
        self.assertEqual([row[0], len(row[2])], [inputs, len(table)])
        self.assertIs(is_plain(row), True)
        self.assertEqual(table_of(row), (table, column))
        self.assertEqual(row_of(inputs, table, column), row)
        return row

    def test_examples(self):
        self.check(2, ((2, 0), (0, 0)), (0, 7))
        self.check(0, ((),), (4,))

    def test_noughts(self):
        self.check(0, ((),) * 8, (0,) * 8)
        self.check(1, ((0,),), (0,))
        self.check(8, ((0,) * 8,) * 8, (0,) * 8)
        self.check(3, ((0, 0, 0), (1, 0, 0), (0, 0, -1), (0, 2, 0)), (0, 0, 5, -6))

    def test_one_and_less(self):
        self.check(1, ((1,), (-1,), (0,)), (1, -1, 0))

    def test_as_great_as_may_be(self):
        self.check(8, ((MAX_NUMBER,) * 8, (-MAX_NUMBER,) * 8) * 4, (MAX_NUMBER, -MAX_NUMBER) * 4)

    def test_each_place(self):
        for seed in range(40):
            inputs, ends = seed % 9, 1 + seed % 8
            table = tuple(random_point(seed + 100 * end, inputs, (1, 2, 10 ** 20)[seed % 3]) for end in range(ends))
            self.check(inputs, table, random_point(seed + 50, ends, (1, 10 ** 20)[seed % 2]))


class AllTest(unittest.TestCase):

    def test_nothing_that_is_passed_is_changed_and_equal_calls_tell_the_same(self):
        before = repr((S, P))
        first = [is_straight(S), is_plain(S), table_of(S), row_of(2, ((1, 2),), (3,))]
        self.assertEqual(first, [is_straight(S), is_plain(S), table_of(S), row_of(2, ((1, 2),), (3,))])
        self.assertEqual(repr((S, P)), before)

    def test_arguments_by_name(self):
        self.assertEqual([is_straight(row=S), is_plain(row=S), table_of(row=P)], [True, True, (((1,),), (0,))])
        self.assertEqual(row_of(column=(3,), table=((1, 2),), inputs=2), row_of(2, ((1, 2),), (3,)))


if __name__ == "__main__":
    unittest.main()
