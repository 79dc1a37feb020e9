import random
import unittest

from helper import ODD, bent, lists_of, random_point
from rowsback.backward import backward
from rowsback.fitting import fed
from rowsback.rows import degrees, long_error, needed, row_error, told
from rowsback.straight import is_plain, row_of, table_of
from rowsback.sweeps import swept
from rowsback.turned import is_turned, turned, turned_counts

S = (2, (("in", 0), ("in", 1), ("set", 3), ("*", 1, 2), ("-", 0, 3), ("+", 4, 2)), (5, 1, 1))
TWICE = (1, (("in", 0), ("+", 0, 0)), (1,))


def random_plain(seed, inputs, steps, ends, long=False):
    """Return a plain row with steps of all kinds, needed or not."""
    rng = random.Random(seed)
    made, deep, sizes = [], [], []
    while len(made) < steps:
        word = rng.choice(("in", "set", "neg", "+", "-", "*", "+", "-", "*"))
        if word == "in" and not inputs or word not in ("in", "set") and not made:
            continue
        if word == "in":
            step, degree, size = ("in", rng.randrange(inputs)), 1, 1
        elif word == "set":
            step, degree, size = ("set", rng.choice((-3, -1, 0, 1, 2, 5))), 0, 1
        else:
            low = 0 if rng.random() < 0.3 else max(0, len(made) - 8)
            parts = [rng.randrange(low, len(made)) for _ in range(1 if word == "neg" else 2)]
            step = (word,) + tuple(parts)
            join = sum if word == "*" else max
            degree, size = join(deep[part] for part in parts), join(sizes[part] for part in parts)
        if degree <= 1 and size <= 64:
            made.append(step)
            deep.append(degree)
            sizes.append(size)
    return (inputs, tuple(made), tuple(rng.randrange(steps) for _ in range(ends)))


def true_counts(row):
    """Return how many true sums and true products a row has."""
    deep = degrees(row)
    steps = [row[1][number] for number in needed(row)]
    sums = [step for step in steps if step[0] in "+-" and deep[step[1]] == 1 and deep[step[2]] == 1]
    products = [step for step in steps if step[0] == "*" and 1 in (deep[step[1]], deep[step[2]])]
    return len(sums), len(products)


def slow_counts(row):
    sums, products = true_counts(row)
    deep = degrees(row)
    named = {row[1][number][1] for number in needed(row) if row[1][number][0] == "in"}
    return sums + sum(deep[end] == 1 for end in row[2]) - len(named), products


def across(table, width):
    return tuple(tuple(factors[index] for factors in table) for index in range(width))


class TurnedTest(unittest.TestCase):

    def check(self, row):
        """Look that what turns the row is right, with no more true sums and true products than are told."""
        found = turned(row)
        self.assertEqual([long_error(found), is_plain(found), is_turned(row, found)], [None, True, True])
        self.assertEqual([found[0], len(found[2])], [len(row[2]), row[0]])
        self.assertEqual(table_of(found), (across(table_of(row)[0], row[0]), (0,) * row[0]))
        counts = turned_counts(row)
        self.assertEqual(counts, slow_counts(row))
        sums, products = true_counts(found)
        self.assertTrue(sums <= counts[0] and products <= counts[1], (row, counts, sums, products))
        self.assertEqual([type(found), type(found[1]), type(found[2]), type(counts)], [tuple] * 4)
        self.assertEqual([turned(row), turned_counts(row)], [found, counts])
        return found

    def test_examples(self):
        self.assertEqual([turned_counts(S), table_of(turned(S)), is_turned(S, turned(S)), is_turned(S, S), is_turned(S, None)],
                         [(2, 1), (((1, 0, 0), (-3, 1, 1)), (0, 0)), True, False, False])
        self.assertEqual([turned_counts(TWICE), turned_counts((2, (("in", 1), ("neg", 0)), (1, 0)))], [(1, 0), (1, 0)])
        self.check(S)
        self.check(TWICE)

    def test_steps_that_no_end_needs(self):
        steps = (("in", 0), ("in", 1), ("+", 0, 1), ("set", 4), ("*", 3, 2), ("-", 4, 0), ("in", 1))
        for ends, counts in (((0,), (0, 0)), ((2,), (0, 0)), ((4,), (0, 1)), ((5,), (1, 1)), ((6,), (0, 0)), ((3,), (0, 0))):
            self.check((2, steps, ends))
            self.assertEqual(turned_counts((2, steps, ends)), counts)

    def test_ends_that_stand_twice(self):
        self.assertEqual(turned_counts((1, (("in", 0),), (0, 0, 0))), (2, 0))
        self.check((1, (("in", 0),), (0, 0, 0)))
        self.check((2, S[1], (5, 5, 4, 3, 3, 0, 0, 5)))

    def test_ends_that_are_set_numbers(self):
        row = (1, (("in", 0), ("set", 7)), (1, 0, 1))
        self.assertEqual(turned_counts(row), (0, 0))
        self.check(row)
        none = (3, (("set", 7), ("set", 2), ("*", 0, 1)), (2, 0))
        self.assertEqual([turned_counts(none), table_of(self.check(none))], [(0, 0), (((0, 0),) * 3, (0,) * 3)])

    def test_sums_of_a_step_and_itself(self):
        steps = (("in", 0), ("+", 0, 0), ("-", 1, 1), ("+", 1, 1), ("set", 2), ("+", 4, 4), ("*", 5, 3))
        for ends, counts in (((1,), (1, 0)), ((2,), (2, 0)), ((3,), (2, 0)), ((6,), (2, 1)), ((6, 2), (4, 1)), ((5,), (0, 0))):
            self.assertEqual(turned_counts((1, steps, ends)), counts)
            self.check((1, steps, ends))

    def test_inputs_that_no_end_hangs_on(self):
        row = (4, (("in", 2), ("in", 3), ("neg", 0)), (2,))
        self.assertEqual([turned_counts(row), table_of(self.check(row))[0]], [(0, 0), ((0,), (0,), (-1,), (0,))])
        # The input is named, though it falls away.
        falls = (2, (("in", 0), ("in", 1), ("-", 1, 1), ("+", 0, 2)), (3,))
        self.assertEqual(turned_counts(falls), (1, 0))
        self.check(falls)

    def test_inputs_that_several_steps_name(self):
        row = (1, (("in", 0), ("in", 0), ("+", 0, 1), ("in", 0), ("-", 2, 3)), (4,))
        self.assertEqual(turned_counts(row), (2, 0))
        self.check(row)

    def test_products_with_numbers_that_are_reckoned(self):
        steps = (("set", 3), ("set", 10 ** 20), ("*", 0, 1), ("+", 2, 0), ("neg", 3), ("in", 0), ("*", 4, 5), ("*", 6, 2))
        found = self.check((1, steps, (7, 6)))
        self.assertGreater(max(map(abs, table_of(found)[0][0])), 10 ** 40)

    def test_random_plain_rows(self):
        sums, products = 0, 0
        for seed in range(300):
            row = random_plain(seed, 1 + seed % 5, 1 + seed % 40, 1 + seed % 6)
            self.assertIsNone(row_error(row))
            self.check(row)
            sums += turned_counts(row)[0] > 0
            products += turned_counts(row)[1] > 0
        self.assertGreater(min(sums, products), 50)

    def test_the_greatest_rows(self):
        for seed in range(20):
            row = random_plain(seed, 8, 60, 8)
            self.assertIsNone(row_error(row))
            self.check(row)
        line = [("in", 0), ("set", 1)] + [("*", 0, 1)] + [("*", 2 + k, 1) for k in range(57)]
        self.check((1, tuple(line), (59,) * 8))

    def test_turned_twice_the_table_is_the_first_one(self):
        for seed in range(40):
            row = random_plain(seed, 1 + seed % 4, 25, 1 + seed % 4)
            again = turned(turned(row))
            self.assertEqual(table_of(again)[0], table_of(row)[0])

    def test_beside_sweeps_and_backward_rows(self):
        for seed in range(40):
            row = random_plain(seed, 1 + seed % 4, 25, 1 + seed % 4)
            weights = random_point(seed, len(row[2]), 99)
            point = random_point(seed, row[0], 99)
            pulls = told(turned(row), weights)
            self.assertEqual(pulls, swept(row, point, weights))
            self.assertEqual(pulls, told(backward(row), point + weights))

    def test_fed_rows_are_turned_the_other_way_about(self):
        for seed in range(40):
            one, other = random_plain(seed, 3, 15, 2), random_plain(seed + 50, 2, 15, 3)
            self.assertIs(is_turned(fed(one, other), fed(turned(other), turned(one))), True)


class CountsTest(unittest.TestCase):

    def test_long_rows(self):
        for seed in range(10):
            row = random_plain(seed, 20, 300, 20)
            self.assertIsNone(long_error(row))
            self.assertEqual(turned_counts(row), slow_counts(row))

    def test_rows_without_inputs(self):
        self.assertEqual(turned_counts((0, (("set", 1), ("+", 0, 0), ("*", 1, 1)), (2, 1))), (0, 0))


class IsTurnedTest(unittest.TestCase):

    def test_rows_that_are_straight_but_not_plain(self):
        row = (1, (("in", 0),), (0,))
        self.assertIs(is_turned(row, row), True)
        self.assertIs(is_turned(row, (1, (("in", 0), ("*", 0, 0), ("-", 1, 1), ("+", 0, 2)), (3,))), False)
        # A step that no end needs counts, too.
        self.assertIs(is_turned(row, (1, (("in", 0), ("*", 0, 0)), (0,))), False)

    def test_columns_that_are_not_all_noughts(self):
        row = (2, S[1], (4,))
        for last, right in (((0, 0), True), ((0, 1), False), ((-1, 0), False)):
            self.assertIs(is_turned(row, row_of(1, ((1,), (-3,)), last)), right)
        # The column of the row itself does not count.
        self.assertIs(is_turned((2, S[1], (5,)), row_of(1, ((1,), (-3,)), (0, 0))), True)

    def test_tables_that_are_not_turned(self):
        row = row_of(2, ((1, 2), (3, 4)), (0, 0))
        for table, right in ((((1, 3), (2, 4)), True), (((1, 2), (3, 4)), False), (((1, 3), (2, 5)), False),
                             (((3, 1), (4, 2)), False), (((2, 4), (1, 3)), False)):
            self.assertIs(is_turned(row, row_of(2, table, (0, 0))), right)

    def test_other_numbers_of_inputs_and_ends(self):
        row = row_of(2, ((1, 2),), (0,))
        self.assertEqual([is_turned(row, row_of(1, ((1,), (2,)), (0, 0))), is_turned(row, row_of(1, ((1,), (2,), (0,)), (0,) * 3)),
                          is_turned(row, row_of(2, ((1, 0), (2, 0)), (0, 0))), is_turned(row, row_of(1, ((1,),), (0,)))],
                         [True, False, False, False])

    def test_however_many_steps(self):
        row = row_of(2, ((1, 2),), (0,))
        steps = [("in", 0), ("set", 2), ("*", 0, 1)] + [("+", 0, 0)] * 397
        self.assertEqual([is_turned(row, (1, tuple(steps), (0, 2))), is_turned(row, (1, tuple(steps) + (("set", 0),), (0, 2)))],
                         [True, False])

    def test_long_rows_at_their_bounds(self):
        row = row_of(8, tuple(random_point(seed, 8, 9) for seed in range(8)), (0,) * 8)
        right = row_of(8, across(table_of(row)[0], 8), (0,) * 8)
        more = right[1] + (("neg", 0),) * (400 - len(right[1]))
        self.assertEqual([is_turned(row, (8, more, right[2])), is_turned(row, (8, more + (("neg", 0),), right[2]))], [True, False])

    def test_bent_values(self):
        for row in (S, TWICE, (2, (("in", 1), ("neg", 0)), (1, 0))):
            right = turned(row)
            holding = 0
            for value in bent(right):
                found = is_turned(row, value)
                self.assertIs(type(found), bool)
                if found:
                    holding += 1
                    self.assertIsNone(long_error(value))
                    self.assertEqual([max(degrees(value)) <= 1, table_of(value)],
                                     [True, (across(table_of(row)[0], row[0]), (0,) * row[0])])
            self.assertLess(holding, 40)
            self.assertIs(is_turned(row, lists_of(right)), False)
        for value in ODD:
            self.assertIs(is_turned(S, value), False)


class AllTest(unittest.TestCase):

    def test_nothing_that_is_passed_is_changed(self):
        before = repr((S, TWICE))
        value = lists_of(turned(S))
        is_turned(S, value)
        turned_counts(TWICE)
        self.assertEqual([repr((S, TWICE)), value], [before, lists_of(turned(S))])

    def test_arguments_by_name(self):
        self.assertEqual([turned_counts(row=TWICE), is_turned(value=turned(row=TWICE), row=TWICE)], [(1, 0), True])


if __name__ == "__main__":
    unittest.main()
