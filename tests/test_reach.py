import unittest
from fractions import Fraction
from itertools import permutations, product
from math import gcd

from helper import HUGE, ODD, TAKEN_AWAY, bent, lists_of, random_point, random_row
from rowsback.errors import NotRound, NotStraight, TooWide
from rowsback.reach import determinant, hinders, hindrance, origin, rank, relations, undone
from rowsback.rows import told
from rowsback.straight import is_straight, row_of, table_of

S = (2, (("in", 0), ("in", 1), ("set", 3), ("*", 1, 2), ("-", 0, 3), ("+", 4, 2)), (5, 1, 1))
E = (1, (("in", 0), ("+", 0, 0)), (1,))
U = (2, (("in", 0), ("in", 1), ("set", 3), ("+", 0, 1), ("+", 3, 2)), (4, 1))
P = (1, (("in", 0), ("*", 0, 0), ("-", 1, 1), ("+", 2, 0)), (3,))
SQUARE = (1, (("in", 0), ("*", 0, 0)), (1,))


def plain(*rows, column=None):
    """Return a row with this table."""
    return row_of(len(rows[0]), rows, column or (0,) * len(rows))


def ranked(rows):
    """Return the rank of rows of integers, by fractions."""
    held = [[Fraction(number) for number in row] for row in rows]
    top = 0
    for place in range(len(held[0]) if held else 0):
        found = [index for index in range(top, len(held)) if held[index][place]]
        if found:
            held[top], held[found[0]] = held[found[0]], held[top]
            for index in range(top + 1, len(held)):
                by = held[index][place] / held[top][place]
                held[index] = [one - by * other for one, other in zip(held[index], held[top])]
            top += 1
    return top


def random_tables(count):
    """Yield rows with tables of many kinds: small and great numbers, ends that hang together, noughts."""
    for seed in range(count):
        inputs, ends = seed % 6, 1 + seed % 5
        biggest = (1, 3, 6, 10 ** 18)[seed % 4]
        table = [random_point(seed + 1000 * end, inputs, biggest) for end in range(ends)]
        if seed % 3 == 0 and ends > 1:
            table[-1] = tuple(2 * one - other for one, other in zip(table[0], table[1 % (ends - 1)]))
        if max([abs(number) for some in table for number in some], default=0) <= 10 ** 20:
            yield seed, row_of(inputs, tuple(table), random_point(seed, ends, biggest))


class RelationsTest(unittest.TestCase):

    def check(self, row):
        table, column = table_of(row)
        found = relations(row)
        lead = [next(place for place, number in enumerate(some) if number) for some in found]
        self.assertEqual(lead, sorted(set(lead)))
        for some, place in zip(found, lead):
            self.assertEqual([len(some), gcd(*some)], [len(table) + 1, 1])
            self.assertGreater(some[place], 0)
            self.assertEqual([other[place] for other in found if other != some], [0] * (len(found) - 1))
            for index in range(row[0]):
                self.assertEqual(sum(k * factors[index] for k, factors in zip(some, table)), 0)
            self.assertEqual(sum(k * number for k, number in zip(some, column)) + some[-1], 0)
            self.assertIs(type(some), tuple)
        self.assertEqual(len(table) - len(found), ranked(table))
        self.assertEqual(rank(row), ranked(table))
        self.assertIs(type(found), tuple)
        return found

    def test_examples(self):
        self.assertEqual([self.check(S), rank(S)], [((0, 1, -1, 0),), 2])
        self.assertEqual(self.check((1, (("in", 0), ("set", 2), ("*", 0, 1)), (2, 1))), ((0, 1, -2),))

    def test_ends_that_are_set(self):
        self.assertEqual(self.check((0, (("set", 3), ("set", 0), ("set", -4)), (0, 1, 2))),
                         ((1, 0, 0, -3), (0, 1, 0, 0), (0, 0, 1, 4)))
        self.assertEqual(self.check((2, (("in", 0), ("set", 7)), (0, 1))), ((0, 1, -7),))

    def test_ends_that_stand_twice(self):
        self.assertEqual(self.check((1, (("in", 0),), (0, 0, 0))), ((1, 0, -1, 0), (0, 1, -1, 0)))

    def test_ends_that_hang_together(self):
        self.assertEqual(self.check(plain((2, 4), (3, 6), column=(1, 1))), ((3, -2, -1),))
        self.assertEqual(self.check(plain((1, 0), (0, 1), (2, -3), column=(0, 5, 1))), ((2, -3, -1, 16),))
        self.assertEqual(self.check(plain((0, 0), (6, 0), (10, 0), (0, 15))), ((1, 0, 0, 0, 0), (0, 5, -3, 0, 0)))

    def test_none(self):
        self.assertEqual([self.check(U), rank(U), self.check(E)], [(), 2, ()])

    def test_rows_that_are_not_plain(self):
        self.assertEqual([self.check(P), self.check((1, P[1], (3, 0, 2)))], [(), ((1, -1, 0, 0), (0, 0, 1, 0))])

    def test_random_rows(self):
        for _, row in random_tables(150):
            self.check(row)
        checked = 0
        for seed in range(120):
            row = random_row(seed, seed % 4, 15, 5, most=2)
            if is_straight(row):
                self.check(row)
                checked += 1
        self.assertGreater(checked, 30)

    def test_as_many_as_may_be(self):
        table = tuple(random_point(seed, 8, 10 ** 18) for seed in range(7))
        total = tuple(sum(some) for some in zip(*table[:3]))
        row = row_of(8, table + (total,), tuple(range(8)))
        self.assertEqual(self.check(row), ((1, 1, 1, 0, 0, 0, 0, -1, 4),))


class OriginTest(unittest.TestCase):

    def check(self, row, wish):
        """Look that there is an origin or a hindrance, just one of both; return the origin."""
        found, bar = origin(row, wish), hindrance(row, wish)
        self.assertEqual((found is None) + (bar is None), 1)
        if bar is None:
            self.assertEqual([type(found), len(found)], [tuple, row[0]])
            self.assertEqual(told(row, found), wish)
        else:
            self.assertIs(hinders(row, wish, bar), True)
            self.check_hindrance(row, wish, bar)
        return found

    def check_hindrance(self, row, wish, bar):
        table, column = table_of(row)
        fractions = [Fraction(top, bottom) for top, bottom in bar]
        self.assertEqual(tuple((one.numerator, one.denominator) for one in fractions), bar)
        for index in range(row[0]):
            self.assertEqual(sum(k * factors[index] for k, factors in zip(fractions, table)).denominator, 1)
        self.assertNotEqual(sum(k * (w - c) for k, w, c in zip(fractions, wish, column)).denominator, 1)

    def test_examples(self):
        self.assertEqual([origin(S, (4, 1, 1)), origin(E, (6,)), origin(E, (5,))], [(4, 1), (3,), None])
        self.assertEqual([hinders(E, (5,), ((1, 2),)), hinders(E, (6,), ((1, 2),)), hinders(E, (5,), ((2, 4),)),
                          hindrance(E, (6,))], [True, False, False, None])

    def test_small_tables_by_trying_all(self):
        for table in product(product((-2, 0, 3), repeat=2), repeat=2):
            row = plain(*table)
            there = {told(row, point) for point in product(range(-12, 13), repeat=2)}
            for wish in product((-1, 0, 2, 3), repeat=2):
                self.assertEqual(self.check(row, wish) is not None, wish in there, (table, wish))

    def test_origins_far_from_nought(self):
        row = plain((10 ** 9, 10 ** 9 + 1), column=(5,))
        self.assertEqual(told(row, self.check(row, (10 ** 18 + 12,))), (10 ** 18 + 12,))
        self.assertEqual(self.check(plain((3, 0), (0, 7), column=(10 ** 20, -10 ** 20)), (-2 * 10 ** 20, 6 * 10 ** 20)),
                         (-10 ** 20, 10 ** 20))
        self.assertEqual(self.check((1, (("in", 0),), (0,)), (10 ** 60,)), (10 ** 60,))

    def test_bottoms_above_two(self):
        for number in (3, 4, 7, 10 ** 18, 10 ** 20):
            row = plain((number,), column=(1,))
            self.assertIsNone(self.check(row, (2,)))
            self.assertEqual(self.check(row, (1 + 5 * number,)), (5,))
        row = plain((6, 10), (10, 15), (15, 6))
        for wish in product(range(-2, 3), repeat=3):
            self.check(row, wish)
        self.assertIsNone(self.check(plain((2, 0), (0, 3)), (1, 1)))
        self.assertIsNone(self.check(plain((1, 1), (1, -1)), (1, 0)))
        self.assertIsNone(self.check(plain((9, 6, 15),), (7,)))

    def test_ends_that_hang_together(self):
        row = plain((1, 2), (2, 4), (1, 2), column=(0, 1, 0))
        self.assertEqual([self.check(row, (3, 7, 3)) is None, self.check(row, (3, 8, 3)), self.check(row, (3, 7, 4))],
                         [False, None, None])

    def test_ends_that_stand_twice_or_are_set(self):
        self.assertIsNone(self.check(S, (4, 1, 2)))
        row = (1, (("in", 0), ("set", 7)), (1, 0))
        self.assertEqual([self.check(row, (7, 4)), self.check(row, (8, 4)), self.check(row, (6, 4))], [(4,), None, None])

    def test_without_inputs(self):
        row = (0, (("set", 7), ("set", 0)), (0, 1))
        self.assertEqual([self.check(row, (7, 0)), self.check(row, (7, 1)), self.check(row, (-10 ** 30, 0))],
                         [(), None, None])

    def test_rows_that_are_not_plain(self):
        self.assertEqual(self.check(P, (5,)), (5,))

    def test_random_rows(self):
        found = {True: 0, False: 0}
        for seed, row in random_tables(200):
            for wish in (told(row, random_point(seed, row[0], 9)), random_point(seed, len(row[2]), 7),
                         told(row, random_point(seed, row[0], 10 ** 30)), random_point(seed, len(row[2]), 10 ** 18)):
                found[self.check(row, wish) is None] += 1
        self.assertGreater(min(found.values()), 200)

    def test_as_many_inputs_and_ends_as_may_be(self):
        for seed in range(6):
            table = tuple(random_point(seed + 50 * end, 8, (9, 10 ** 18)[seed % 2]) for end in range(8))
            row = row_of(8, table, random_point(seed, 8, 10 ** 18))
            far = random_point(seed, 8, 10 ** 20)
            self.assertEqual(self.check(row, told(row, far)), far)
            self.check(row, random_point(seed + 1, 8, 10 ** 18))


class HindersTest(unittest.TestCase):

    def test_wrong_values(self):
        bar = hindrance(S, (4, 1, 2))
        self.assertIs(hinders(S, (4, 1, 2), bar), True)
        for value in ODD + (bar[:2], bar + ((0, 1),), list(bar), lists_of(bar), (bar[0], bar[1], list(bar[2]))):
            self.assertIs(hinders(S, (4, 1, 2), value), False)

    def test_fractions(self):
        row = plain((6,), column=(0,))
        for value, right in (((1, 6), True), ((1, 3), True), ((1, 2), True), ((5, 6), True), ((-1, 6), True), ((7, 6), True),
                             ((2, 12), False), ((1, -6), False), ((-1, -6), False), ((1, 0), False), ((0, 1), False),
                             ((0, 6), False), ((1, 1), False), ((1, 12), False), ((1, True), False), ((True, 6), False),
                             ((1, 6, 1), False), ((1,), False), ([1, 6], False), ((3, 6), False), ("16", False)):
            self.assertIs(hinders(row, (1,), (value,)), right, value)
        self.assertIs(hinders(row, (3,), ((1, 2),)), True)
        self.assertIs(hinders(row, (3,), ((1, 3),)), False)
        self.assertIs(hinders(row, (12,), ((1, 6),)), False)

    def test_the_column_counts(self):
        row = plain((2,), column=(1,))
        self.assertIs(hinders(row, (2,), ((1, 2),)), True)
        self.assertIs(hinders(row, (3,), ((1, 2),)), False)

    def test_sums_of_unlike_bottoms(self):
        row = plain((2, 0), (0, 3))
        for value, right in ((((1, 2), (1, 3)), True), (((1, 2), (0, 1)), True), (((0, 1), (2, 3)), True),
                             (((1, 3), (1, 3)), False), (((1, 2), (1, 2)), False), (((1, 6), (1, 6)), False)):
            self.assertIs(hinders(row, (1, 1), value), right, value)
        both = plain((1, 1), (1, -1))
        self.assertIs(hinders(both, (1, 0), ((1, 2), (1, 2))), True)
        self.assertIs(hinders(both, (1, 1), ((1, 2), (1, 2))), False)
        self.assertIs(hinders(both, (1, 0), ((1, 2), (0, 1))), False)

    def test_any_fraction_where_nothing_hangs_on_inputs(self):
        row = (0, (("set", 7),), (0,))
        self.assertIs(hinders(row, (8,), ((1, 10 ** 40 + 1),)), True)
        self.assertIs(hinders(row, (7,), ((1, 3),)), False)

    def test_bent_values(self):
        row, wish = plain((4, 6), (0, 9), column=(1, 0)), (2, 3)
        bar = hindrance(row, wish)
        told_right = 0
        for value in bent(bar):
            found = hinders(row, wish, value)
            self.assertIs(type(found), bool)
            if found:
                told_right += 1
                OriginTest().check_hindrance(row, wish, value)
        self.assertLess(told_right, 20)

    def test_huge_numbers(self):
        row = plain((1,), column=(0,))
        self.assertIs(hinders(row, (3,), ((HUGE + 1, HUGE),)), False)
        self.assertIs(hinders((0, (("set", 0),), (0,)), (1,), ((HUGE + 1, HUGE),)), True)


class DeterminantTest(unittest.TestCase):

    def leibniz(self, table):
        total = 0
        for order in permutations(range(len(table))):
            part = 1
            for index, place in enumerate(order):
                part *= table[index][place]
                for other in order[:index]:
                    part = -part if other > place else part
            total += part
        return total

    def test_examples(self):
        self.assertEqual([determinant(U), determinant(E), determinant((2, (("in", 0), ("in", 1)), (1, 0)))], [1, 2, -1])
        self.assertEqual([undone(U), undone(E)], [(((1, -1), (0, 1)), (-3, 0)), None])

    def test_small_tables(self):
        for table in product(product((-1, 0, 2), repeat=2), repeat=2):
            self.assertEqual(determinant(plain(*table)), self.leibniz(table))
        for number in (0, 1, -1, 7, -10 ** 20):
            self.assertEqual(determinant(plain((number,))), number)

    def test_random_tables(self):
        for seed in range(80):
            many = 1 + seed % 5
            table = tuple(random_point(seed + 90 * end, many, (2, 5, 10 ** 20)[seed % 3]) for end in range(many))
            self.assertEqual(determinant(plain(*table)), self.leibniz(table))

    def test_eight(self):
        order = (3, 1, 4, 0, 7, 6, 2, 5)
        row = (8, tuple(("in", k) for k in range(8)), order)
        self.assertEqual(determinant(row), self.leibniz(table_of(row)[0]))
        self.assertEqual(determinant((8, row[1], (0,) * 8)), 0)

    def test_rows_without_inputs_are_not_round(self):
        with self.assertRaises(NotRound):
            determinant((0, (("set", 1),), (0,)))


class UndoneTest(unittest.TestCase):

    def check(self, row):
        found = undone(row)
        if determinant(row) not in (1, -1):
            self.assertIsNone(found)
            return found
        back, column = found
        for seed in range(3):
            point = random_point(seed, row[0], 10 ** 20)
            ends = told(row, point)
            self.assertEqual(tuple(sum(k * end for k, end in zip(some, ends)) + c for some, c in zip(back, column)), point)
        self.assertEqual([type(found), type(back), type(back[0]), type(column)], [tuple] * 4)
        return found

    def test_small_tables(self):
        done = 0
        for table in product(product((-1, 0, 1, 2), repeat=2), repeat=2):
            done += self.check(plain(*table, column=(3, -4))) is not None
        self.assertGreater(done, 30)

    def test_one_input(self):
        self.assertEqual([undone(plain((1,), column=(5,))), undone(plain((-1,), column=(5,))), undone(plain((2,)))],
                         [(((1,),), (-5,)), (((-1,),), (5,)), None])

    def test_great_numbers(self):
        big = 10 ** 20
        self.assertEqual(self.check(plain((1, big), (0, 1), column=(0, big))), (((1, -big), (0, 1)), (big * big, -big)))
        self.assertEqual(self.check(plain((1, big, 0), (0, 1, big), (0, 0, 1)))[0][0], (1, -big, big * big))
        self.assertIsNone(self.check(plain((big, big - 1), (big - 1, big - 3))))
        self.check(plain((big, big - 1), (big - 1, big - 2)))

    def test_eight(self):
        table = tuple(tuple(int(place == index) + 10 ** 18 * (place > index) for place in range(8)) for index in range(8))
        self.check(plain(*table, column=tuple(range(8))))
        self.check((8, tuple(("in", k) for k in range(8)), (3, 1, 4, 0, 7, 6, 2, 5)))


class ErrorsTest(unittest.TestCase):

    CALLS = (relations, rank, lambda row: origin(row, (0,) * len(row[2])), lambda row: hindrance(row, (0,) * len(row[2])),
             lambda row: hinders(row, (0,) * len(row[2]), None), lambda row: hinders(row, (1,) * len(row[2]), ((1, 2),)))

    def test_too_wide_ahead_of_not_straight(self):
        square = (2, TAKEN_AWAY[1], (3, TAKEN_AWAY[2][0]))
        for row in (TAKEN_AWAY, square, (2, square[1], square[2][::-1])):
            for call in self.CALLS + (determinant, undone):
                with self.assertRaises(TooWide):
                    call(row)

    def test_not_straight(self):
        for row in (SQUARE, (1, SQUARE[1], (0, 1)), (1, SQUARE[1], (1, 0))):
            for call in self.CALLS + (determinant, undone):
                with self.assertRaises(NotStraight):
                    call(row)

    def test_not_round(self):
        for row in (S, (2, U[1], (4,)), (1, E[1], (0, 1)), (0, (("set", 1),), (0,))):
            for call in (determinant, undone):
                with self.assertRaises(NotRound):
                    call(row)

    def test_nothing_that_is_passed_is_changed_and_equal_calls_tell_the_same(self):
        before = repr((S, E, U))
        value = [[1, 2]]
        first = [relations(S), rank(S), origin(S, (4, 1, 1)), hindrance(E, (5,)), hinders(E, (5,), value), undone(U)]
        self.assertEqual(first, [relations(S), rank(S), origin(S, (4, 1, 1)), hindrance(E, (5,)),
                                 hinders(E, (5,), value), undone(U)])
        self.assertEqual([repr((S, E, U)), value], [before, [[1, 2]]])

    def test_arguments_by_name(self):
        self.assertEqual([relations(row=E), rank(row=E), origin(wish=(6,), row=E), hindrance(wish=(6,), row=E),
                          hinders(value=((1, 2),), wish=(5,), row=E), determinant(row=E), undone(row=E)],
                         [(), 1, (3,), None, True, 2, None])


if __name__ == "__main__":
    unittest.main()
