import unittest
from itertools import combinations, permutations, product
from math import gcd

from helper import HUGE, ODD, TAKEN_AWAY, bent, lists_of, random_point, random_row
from rowsback.errors import NotStraight, TooWide, Unfit
from rowsback.keeping import extended, extended_holds, forgets, forgotten, kept_weights, tells_back
from rowsback.rows import told
from rowsback.straight import is_straight, row_of, table_of

SHEAR = (2, (("in", 0), ("in", 1), ("+", 0, 1)), (2, 1))
SUM, TWICE = (2, SHEAR[1], (2,)), (1, (("in", 0), ("+", 0, 0)), (1,))
SQUARE = (1, (("in", 0), ("*", 0, 0)), (1,))
# The one end is the input itself, though a step has the degree 2.
ODDLY = (2, (("in", 0), ("*", 0, 0), ("-", 1, 1), ("+", 2, 0)), (3,))
GREAT = 10 ** 18


def plain(*rows, column=None):
    """Return a row with this table."""
    return row_of(len(rows[0]), rows, column or (0,) * len(rows))


def slow_determinant(table):
    """Return the determinant, as a sum over all orders."""
    total = 0
    for order in permutations(range(len(table))):
        part = (-1) ** sum(other > place for index, place in enumerate(order) for other in order[:index])
        for index, place in enumerate(order):
            part *= table[index][place]
        total += part
    return total


def minors(rows, many, width):
    """Return the greatest common divisor of all determinants of so many of the rows."""
    return gcd(*[slow_determinant([[row[place] for place in places] for row in some])
                 for some in combinations(rows, many) for places in combinations(range(width), many)])


def slow_rank(rows, width):
    return max(many for many in range(min(len(rows), width) + 1) if minors(rows, many, width) != 0)


def some_tables():
    """Yield tables with 1 to 4 inputs: all small ones, and others with noughts, great numbers, tuples that hang together."""
    for numbers in product((-2, 0, 1, 3), repeat=4):
        yield (numbers[:2], numbers[2:])
        yield (numbers,)
    for seed in range(120):
        inputs, ends = 1 + seed % 4, 1 + seed % 3
        biggest = (1, 2, 6, 12, GREAT)[seed % 5]
        table = [random_point(seed + 500 * end, inputs, biggest) for end in range(ends)]
        if seed % 4 == 0:
            table.append(tuple(2 * one - 3 * other for one, other in zip(table[0], table[-1])))
        if seed % 4 == 1:
            table[0] = tuple(6 * number for number in table[0])
        if seed % 7 == 2:
            table.append(table[0])
        yield tuple(table)


class ForgottenTest(unittest.TestCase):

    def check(self, row):
        """Look that what is forgotten is a base of all shifts that the row forgets."""
        table, _ = table_of(row)
        found = forgotten(row)
        self.assertEqual(len(found), row[0] - slow_rank(table, row[0]))
        for shift in found:
            self.assertEqual([type(shift), len(shift)], [tuple, row[0]])
            self.assertIs(forgets(row, shift), True)
            for factors in table:
                self.assertEqual(sum(one * other for one, other in zip(factors, shift)), 0)
        if found:
            # Then each shift that is forgotten is a sum of whole multiples, in one way.
            self.assertEqual(minors(found, len(found), row[0]), 1)
        self.assertIs(type(found), tuple)
        return found

    def test_examples(self):
        self.assertEqual([forgets(SUM, (2, -2)), len(forgotten(SUM)), forgotten(SHEAR)], [True, 1, ()])
        self.assertIn(self.check(SUM), (((1, -1),), ((-1, 1),)))

    def test_rows_that_forget_nothing_or_all(self):
        self.assertEqual([self.check(TWICE), self.check(SHEAR), self.check(plain((3,), (0,)))], [(), (), ()])
        self.assertEqual(len(self.check((3, (("set", 5), ("set", 0)), (0, 1, 0)))), 3)
        self.assertEqual(len(self.check((3, (("in", 1), ("-", 0, 0)), (1,)))), 3)

    def test_rows_without_inputs(self):
        self.assertEqual([self.check((0, (("set", 5),), (0,))), forgets((0, (("set", 5),), (0, 0)), ())], [(), True])

    def test_a_base_with_a_multiple_too_great_is_none(self):
        for row, shift in ((plain((6, 10)), (5, -3)), (plain((4, 6)), (3, -2)), (plain((2, 0)), (0, 1)),
                           (plain((7, 7 * GREAT)), (GREAT, -1))):
            self.assertIn(self.check(row), ((shift,), (tuple(-number for number in shift),)))

    def test_more_ends_than_inputs_as_many_and_fewer(self):
        self.assertEqual(self.check(plain((1, 2), (2, 4), (3, 6))), forgotten(plain((1, 2))))
        self.assertEqual(len(self.check(plain((1, 2, 3), (2, 4, 6), (1, 1, 1)))), 1)
        self.assertEqual(len(self.check(plain((1, 2, 3, 4)))), 3)

    def test_ends_that_stand_twice_and_rows_that_are_not_plain(self):
        self.assertEqual(self.check((2, SUM[1], (2, 2, 2))), forgotten(SUM))
        self.assertIn(self.check(ODDLY), (((0, 1),), ((0, -1),)))

    def test_the_column_does_not_count(self):
        self.assertEqual(forgotten(plain((6, 10), column=(7,))), forgotten(plain((6, 10))))
        self.assertIs(forgets(plain((6, 10), column=(7,)), (5, -3)), True)

    def test_tables_of_many_kinds(self):
        counts = {}
        for table in some_tables():
            many = len(self.check(plain(*table)))
            counts[many] = counts.get(many, 0) + 1
        self.assertGreater(min(counts[many] for many in range(4)), 1)

    def test_random_rows(self):
        checked = 0
        for seed in range(120):
            row = random_row(seed, seed % 5, 15, 1 + seed % 3, most=2)
            if is_straight(row):
                self.check(row)
                checked += 1
        self.assertGreater(checked, 30)

    def test_great_numbers(self):
        for many in (1, 4, 7, 8):
            table = tuple(random_point(seed, 8, GREAT) for seed in range(many))
            row = row_of(8, table, (0,) * many)
            found = forgotten(row)
            self.assertEqual(len(found), 8 - many)
            for shift in found:
                self.assertIs(forgets(row, shift), True)
                self.assertEqual(gcd(*shift), 1)

    def test_forgets_just_what_changes_no_end(self):
        for seed, table in enumerate(some_tables()):
            row = plain(*table, column=tuple(range(len(table))))
            for shift in [random_point(seed, row[0], 3)] + list(forgotten(row)) + [(0,) * row[0]]:
                same = True
                for other in range(3):
                    point = random_point(seed + other, row[0], 99)
                    same = same and told(row, point) == told(row, tuple(a + b for a, b in zip(point, shift)))
                self.assertIs(forgets(row, shift), same)

    def test_forgets_multiples_of_what_is_forgotten_and_nothing_near(self):
        row = plain((6, 10), (9, 15))
        self.assertEqual([forgets(row, (5 * k, -3 * k)) for k in (0, 1, -1, 10 ** 40)], [True] * 4)
        self.assertEqual([forgets(row, shift) for shift in ((5, 3), (5, -2), (4, -3), (10 ** 40, 0))], [False] * 4)


class WeightsTest(unittest.TestCase):

    def test_examples(self):
        self.assertEqual([len(kept_weights(SUM)), tells_back(SUM, ((1, 0),)), tells_back(SUM, ((2, 2),))],
                         [1, True, False])

    def test_as_few_as_what_is_forgotten_tells(self):
        for table in some_tables():
            row = plain(*table)
            weights = kept_weights(row)
            self.assertEqual(len(weights), len(forgotten(row)))
            self.assertIs(tells_back(row, weights), True)
            for part in weights:
                self.assertEqual([type(part), len(part)], [tuple, row[0]])
                self.assertIs(tells_back(row, tuple(other for other in weights if other != part)), False)

    def test_none_where_nothing_is_forgotten(self):
        for row in (TWICE, SHEAR, plain((3,), (0,)), (0, (("set", 5),), (0,))):
            self.assertEqual([kept_weights(row), tells_back(row, ())], [(), True])

    def test_tells_back_is_so_if_no_shift_is_seen_nowhere(self):
        told_right = {True: 0, False: 0}
        for seed, table in enumerate(some_tables()):
            row = plain(*table)
            for many in range(3):
                weights = tuple(random_point(seed + 77 * index, row[0], 1 + seed % 2) for index in range(many))
                wanted = slow_rank(table + weights, row[0]) == row[0]
                self.assertIs(tells_back(row, weights), wanted)
                told_right[wanted] += 1
        self.assertGreater(min(told_right.values()), 200)

    def test_few_and_many(self):
        row = (3, (("in", 0), ("in", 1), ("in", 2), ("+", 0, 1)), (3,))
        units = ((1, 0, 0), (0, 1, 0), (0, 0, 1))
        self.assertEqual([tells_back(row, ()), tells_back(row, units[:1]), tells_back(row, units[1:]),
                          tells_back(row, units[:2])], [False, False, True, False])
        self.assertEqual([tells_back(row, units), tells_back(row, units + units), tells_back(row, units[:2] * 4)],
                         [True, True, False])
        self.assertEqual([tells_back(SHEAR, ()), tells_back(SHEAR, ((0, 0),)), tells_back(SHEAR, ((5, 7),) * 8)], [True] * 3)

    def test_weights_that_are_multiples(self):
        row = (3, (("in", 0),), (0,))
        self.assertIs(tells_back(row, ((0, 1, 1), (0, 2, 2))), False)
        self.assertIs(tells_back(row, ((0, 7, 0), (9, 0, 12))), True)
        self.assertIs(tells_back(row, ((5, 0, 0), (9, 0, 12))), False)
        self.assertIs(tells_back(SUM, ((GREAT, GREAT),)), False)
        self.assertIs(tells_back(SUM, ((GREAT, GREAT + 1),)), True)
        self.assertIs(tells_back(SUM, ((0, 0), (-3, -3))), False)

    def test_rows_that_forget_all(self):
        row = (2, (("set", 5),), (0,))
        self.assertEqual([len(kept_weights(row)), tells_back(row, kept_weights(row)), tells_back(row, ((2, 0), (0, 3))),
                          tells_back(row, ((2, 4), (3, 6)))], [2, True, True, False])


class ExtendedTest(unittest.TestCase):

    def check(self, row):
        table, _ = table_of(row)
        found = extended(row)
        self.assertIs(extended_holds(row, found), True)
        self.assertEqual([type(found), len(found), type(found[1])], [tuple, 2, tuple])
        self.assertEqual(found[0] == "weights", minors(table, len(table), row[0]) == 1)
        if found[0] == "weights":
            self.assertEqual(len(found[1]), row[0] - len(table))
            if row[0] <= 5:
                self.assertIn(slow_determinant(table + found[1]), (1, -1))
        else:
            self.check_barred(table, found[1])
        self.assertEqual(extended(row), found)
        return found

    def check_barred(self, table, told_by):
        number, multipliers = told_by
        self.assertEqual([len(multipliers), gcd(*multipliers)], [len(table), 1])
        self.assertTrue(number == 0 or number >= 2)
        for across in zip(*table):
            total = sum(by * factor for by, factor in zip(multipliers, across))
            self.assertEqual(total % number if number else total, 0)

    def test_examples(self):
        self.assertEqual([extended_holds(SUM, ("weights", ((1, 0),))), extended_holds(SUM, ("weights", ((1, -1),)))],
                         [True, False])
        self.assertEqual([extended_holds(TWICE, ("barred", (2, (1,)))), extended(SHEAR)], [True, ("weights", ())])
        self.assertEqual([self.check(SUM)[0], self.check(TWICE)], ["weights", ("barred", (2, (1,)))])

    def test_the_greatest_divisor_of_what_the_ends_come_to(self):
        self.assertEqual([self.check(plain((6, 10, 15)))[0], self.check(plain((3, 5)))[0]], ["weights", "weights"])
        self.assertEqual(self.check(plain((6, 10))), ("barred", (2, (1,))))
        self.assertEqual(self.check(plain((12, 18, 30))), ("barred", (6, (1,))))
        self.assertEqual(self.check(plain((0, 0))), ("barred", (0, (1,))))
        self.assertEqual([self.check(plain((1, 0, 0), (1, 2, 4)))[1][0], self.check(plain((1, 1, 0), (2, 2, 0)))[1][0]], [2, 0])
        self.assertEqual(self.check(plain((1, 2), (3, 4)))[1][0], 2)
        self.assertEqual([self.check(plain((GREAT, GREAT + 1)))[0], self.check(plain((GREAT, 0)))],
                         ["weights", ("barred", (GREAT, (1,)))])

    def test_as_many_ends_as_inputs(self):
        self.assertEqual([self.check(plain((1, GREAT), (0, -1))), self.check(plain((-1,)))], [("weights", ()), ("weights", ())])
        self.assertEqual(self.check(plain((2, 1), (1, 1))), ("weights", ()))
        self.assertEqual(self.check((2, SHEAR[1], (2, 2)))[1][0], 0)

    def test_tables_of_many_kinds(self):
        words = {}
        for table in some_tables():
            if len(table) <= len(table[0]):
                word, rest = self.check(plain(*table, column=(9,) * len(table)))
                kind = word if word == "weights" else min(rest[0], 2)
                words[kind] = words.get(kind, 0) + 1
        self.assertGreater(min(words.values()), 10)
        self.assertEqual(set(words), {"weights", 0, 2})

    def test_just_one_of_both(self):
        for table in some_tables():
            if len(table) <= len(table[0]) <= 2:
                row = plain(*table)
                word, _ = extended(row)
                if word == "weights":
                    bars = [(number, some) for number in (0, 2, 3, 4, 5, 6)
                            for some in product(range(-6, 7), repeat=len(table)) if gcd(*some) == 1]
                    self.assertEqual([bar for bar in bars if extended_holds(row, ("barred", bar))], [])
                else:
                    more = [some for some in product(range(-4, 5), repeat=row[0])]
                    sets = [()] if len(table) == row[0] else [(some,) for some in more]
                    self.assertEqual([some for some in sets if extended_holds(row, ("weights", some))], [])

    def test_great_tables(self):
        for many in (1, 3, 6, 7, 8):
            for scale in (1, 3):
                table = [random_point(seed, 8, GREAT) for seed in range(many)]
                table[-1] = tuple(scale * number for number in table[-1])
                row = row_of(8, tuple(table), (1,) * many)
                found = extended(row)
                self.assertIs(extended_holds(row, found), True)
                if scale == 3:
                    self.assertEqual(found[0], "barred")
                    self.check_barred(tuple(table), found[1])

    def test_unfit(self):
        for row in ((1, (("in", 0),), (0, 0)), (0, (("set", 1),), (0,)), (2, SHEAR[1], (0, 1, 2))):
            for call in (extended, lambda row: extended_holds(row, None), lambda row: extended_holds(row, ("weights", ()))):
                with self.assertRaises(Unfit):
                    call(row)


class ExtendedHoldsTest(unittest.TestCase):

    def test_weights(self):
        row = plain((2, 3, 0))
        for weights, right in ((((1, 1, 0), (0, 0, 1)), True), (((1, 2, 0), (0, 0, -1)), True), (((0, 0, 1), (1, 1, 0)), True),
                               (((1, 1, 0), (0, 0, 2)), False), (((2, 3, 0), (0, 0, 1)), False), (((1, 1, 0),), False),
                               (((1, 1, 0), (0, 0, 1), (1, 0, 0)), False), (((1, 1), (0, 1)), False), ((), False),
                               (((True, 1, 0), (0, 0, 1)), False), (([1, 1, 0], (0, 0, 1)), False),
                               ([(1, 1, 0), (0, 0, 1)], False), (((-1, -1, GREAT), (0, 0, 1)), True), (1, False)):
            self.assertIs(extended_holds(row, ("weights", weights)), right, weights)

    def test_bars(self):
        row = plain((2, 0, 4), (0, 3, 0))
        for bar, right in (((2, (1, 0)), True), ((2, (-1, 0)), True), ((2, (3, 2)), True), ((3, (0, 1)), True), ((6, (3, 2)), True),
                           ((6, (3, -4)), True), ((2, (1, 1)), False), ((2, (2, 0)), False), ((2, (3, 6)), False),
                           ((1, (1, 0)), False), ((-2, (1, 0)), False), ((-1, (1, 0)), False), ((0, (1, 0)), False),
                           ((0, (0, 0)), False), ((2, (0, 0)), False), ((2, (1,)), False), ((2, (1, 0, 0)), False),
                           ((2, (True, 0)), False), ((True, (1, 0)), False), ((2, [1, 0]), False), ([2, (1, 0)], False),
                           ((2,), False), ((2, (1, 0), 1), False), ((3, (2, 1)), False), (2, False), ((None, (1, 0)), False)):
            self.assertIs(extended_holds(row, ("barred", bar)), right, bar)

    def test_bars_of_ends_that_hang_together(self):
        row = plain((1, 2, 0), (3, 6, 0))
        for bar, right in (((0, (3, -1)), True), ((0, (-3, 1)), True), ((2, (3, -1)), True), ((GREAT, (3, -1)), True),
                           ((0, (6, -2)), False), ((0, (1, 0)), False), ((1, (3, -1)), False), ((5, (2, 1)), True),
                           ((5, (2, 6)), False), ((HUGE, (3, -1)), True)):
            self.assertIs(extended_holds(row, ("barred", bar)), right, bar)

    def test_the_two_kinds_exchanged(self):
        self.assertIs(extended_holds(SUM, ("barred", ((1, 0),))), False)
        self.assertIs(extended_holds(TWICE, ("weights", (2, (1,)))), False)
        self.assertIs(extended_holds(SHEAR, ("barred", ())), False)
        self.assertIs(extended_holds(SHEAR, ("weights", ())), True)
        self.assertIs(extended_holds(TWICE, ("weights", ())), False)

    def test_bent_values(self):
        for row in (SUM, TWICE, plain((2, 3, 5)), plain((1, 2), (1, 2)), plain((4, 6, 8))):
            right = extended(row)
            holding = 0
            for value in bent(right):
                found = extended_holds(row, value)
                self.assertIs(type(found), bool)
                if found:
                    holding += 1
                    if value[0] == "weights":
                        self.assertIn(slow_determinant(table_of(row)[0] + value[1]), (1, -1))
                    else:
                        ExtendedTest().check_barred(table_of(row)[0], value[1])
            self.assertLess(holding, 25)
            self.assertIs(extended_holds(row, lists_of(right)), False)

    def test_odd_values(self):
        for value in ODD:
            for word in ("weights", "barred", "", None, 0, ("weights",)):
                self.assertIs(extended_holds(TWICE, (word, value)), False)
                self.assertIs(extended_holds(TWICE, (value, (2, (1,)))), False)
            self.assertIs(extended_holds(TWICE, value), False)


class AllTest(unittest.TestCase):

    CALLS = (forgotten, kept_weights, extended, lambda row: forgets(row, (0,) * row[0]), lambda row: tells_back(row, ()),
             lambda row: extended_holds(row, None))

    def test_too_wide_ahead_of_not_straight_ahead_of_unfit(self):
        wide, square = TAKEN_AWAY[2][0], 3
        for ends in ((wide,), (square, wide), (wide, square), (square, wide, square)):
            for call in self.CALLS:
                with self.assertRaises(TooWide):
                    call((2, TAKEN_AWAY[1], ends))
        for ends in ((1,), (0, 1), (1, 0), (1, 1, 1)):
            for call in self.CALLS:
                with self.assertRaises(NotStraight):
                    call((1, SQUARE[1], ends))

    def test_nothing_that_is_passed_is_changed_and_equal_calls_tell_the_same(self):
        rows = (SUM, TWICE, SHEAR, plain((4, 6, 8)))
        before = repr(rows)
        value = ["weights", [[1, 0]]]
        for row in rows:
            for call in self.CALLS:
                self.assertEqual(call(row), call(row))
            extended_holds(row, value)
        self.assertEqual([repr(rows), value], [before, ["weights", [[1, 0]]]])

    def test_arguments_by_name(self):
        self.assertEqual([forgotten(row=SHEAR), forgets(shift=(1, -1), row=SUM), kept_weights(row=SHEAR)], [(), True, ()])
        self.assertEqual([tells_back(weights=((1, 0),), row=SUM), extended(row=SHEAR)], [True, ("weights", ())])
        self.assertIs(extended_holds(value=("weights", ()), row=SHEAR), True)


if __name__ == "__main__":
    unittest.main()
