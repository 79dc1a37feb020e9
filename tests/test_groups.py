import random
import unittest
from itertools import combinations, permutations

from helper import BEYOND, JUST, ODD, TAKEN_AWAY, bent, lists_of, random_point, random_row
from rowsback.errors import TooGreat, TooWide
from rowsback.groups import both_groups, group_count, groups, is_both, is_grouping, rates_by, squeezed, together
from rowsback.patterns import pattern_of, turned_pattern
from rowsback.rates import rates_at
from rowsback.straight import row_of

Q = (3, (("in", 0), ("in", 1), ("in", 2), ("*", 0, 1), ("+", 1, 2)), (3, 4, 2))
P = (3, ((0, 1), (1, 2), (2,)))
Y = (4, ((0, 1, 2, 3), (0, 1), (0, 2), (0, 3)))
BARE, NONE = (8, ()), (0, ())
FULL = (8, (tuple(range(8)),) * 8)
# Each two of four inputs stand together in a lot of their own.
PAIRWISE = (4, tuple(combinations(range(4), 2)))
# The ring of five needs three groups, though just two stand together.
RING = (5, ((0, 1), (1, 2), (2, 3), (3, 4), (0, 4)))


def random_pattern(seed, inputs, ends):
    rng = random.Random(seed)
    often = rng.choice((0.1, 0.3, 0.5, 0.8))
    return (inputs, tuple(tuple(k for k in range(inputs) if rng.random() < often) for _ in range(ends)))


def is_ascending(value, many):
    if type(value) is not tuple or not all(type(k) is int and 0 <= k < many for k in value):
        return False
    return list(value) == sorted(set(value))


def slow_tuples(value, many):
    """Return whether the value is an ascending tuple of nonempty ascending tuples, no number in two."""
    if type(value) is not tuple or not all(is_ascending(some, many) and some for some in value):
        return False
    numbers = [k for some in value for k in some]
    return list(value) == sorted(value) and len(numbers) == len(set(numbers))


def slow_grouping(pattern, value):
    if not slow_tuples(value, pattern[0]) or {k for some in value for k in some} != set(range(pattern[0])):
        return False
    return not any(one in lot and other in lot for lot in pattern[1] for some in value
                   for one, other in combinations(some, 2))


def partitions(numbers):
    """Yield all ways to put the numbers into sets."""
    if not numbers:
        yield []
        return
    for rest in partitions(numbers[1:]):
        yield [[numbers[0]]] + rest
        for index in range(len(rest)):
            yield rest[:index] + [[numbers[0]] + rest[index]] + rest[index + 1:]


def as_tuples(partition):
    return tuple(sorted(tuple(sorted(some)) for some in partition))


class IsGroupingTest(unittest.TestCase):

    def test_examples(self):
        self.assertEqual([is_grouping(P, ((0, 2), (1,))), is_grouping(P, ((0, 1), (2,)))], [True, False])

    def test_what_is_none(self):
        right = ((0,), (1,), (2,))
        self.assertIs(is_grouping(P, right), True)
        for value in (((0,), (2,), (1,)), ((0,), (1,)), right + ((),), ((),) + right, ((0,), (1,), (2,), (2,)), ((2, 0), (1,)),
                      ((0,), (1,), (3,)), ((0, 0), (1,), (2,)), ((0, 2), (1,), (2,)), ((0,), (1,), (2, 3)), list(right),
                      ([0], (1,), (2,)), ((False,), (1,), (2,)), (0, 1, 2), ((0,), (1,), (-1,), (2,)), (), None, "012",
                      ((0,), (True,), (2,)), ((1,), (0, 2))):
            self.assertIs(is_grouping(P, value), False, value)

    def test_no_inputs(self):
        for pattern in (NONE, (0, ((),) * 8)):
            self.assertIs(is_grouping(pattern, ()), True)
            for value in ODD:
                self.assertIs(is_grouping(pattern, value), value == () and type(value) is tuple)
            self.assertIs(is_grouping(pattern, ((),)), False)

    def test_bent_values(self):
        for pattern, grouping in ((P, ((0, 2), (1,))), (RING, ((0, 2), (1, 3), (4,))), (BARE, (tuple(range(8)),))):
            self.assertIs(is_grouping(pattern, grouping), True)
            for value in list(bent(grouping)) + [lists_of(grouping)]:
                self.assertIs(is_grouping(pattern, value), slow_grouping(pattern, value))

    def test_all_partitions(self):
        for seed in range(12):
            pattern = random_pattern(seed, 5, 1 + seed % 4)
            for partition in partitions(list(range(5))):
                value = as_tuples(partition)
                self.assertIs(is_grouping(pattern, value), slow_grouping(pattern, value))


class GroupsTest(unittest.TestCase):

    def test_examples(self):
        self.assertEqual([groups(P), groups(NONE), together(P)], [((0, 2), (1,)), (), (0, 1)])
        self.assertEqual([group_count(P, number) for number in (1, 2, 3)], [0, 1, 1])
        self.assertEqual([len(groups(Y)), len(groups(turned_pattern(Y)))], [4, 4])

    def test_the_first_one(self):
        self.assertEqual(groups((3, ((0, 1),))), ((0,), (1, 2)))
        self.assertEqual(groups((4, ((0, 1), (2, 3)))), ((0, 2), (1, 3)))
        self.assertEqual(groups(RING), ((0,), (1, 3), (2, 4)))

    def test_edges(self):
        self.assertEqual([groups(BARE), groups((8, ((),) * 8)), groups(FULL)],
                         [(tuple(range(8)),)] * 2 + [tuple((k,) for k in range(8))])
        self.assertEqual([groups((0, ((),))), groups((1, ())), groups((1, ((0,),)))], [(), ((0,),), ((0,),)])

    def test_counts(self):
        self.assertEqual([group_count(BARE, number) for number in range(9)], [0, 1, 127, 966, 1701, 1050, 266, 28, 1])
        self.assertEqual([group_count(FULL, number) for number in range(9)], [0] * 8 + [1])
        self.assertEqual([group_count(NONE, number) for number in range(9)], [1] + [0] * 8)
        self.assertEqual([group_count((0, ((),)), 0), group_count((3, ()), 0), group_count((3, ()), 4)], [1, 0, 0])

    def test_all_partitions(self):
        for seed in range(40):
            pattern = random_pattern(seed, seed % 7, seed % 9)
            right = [value for value in map(as_tuples, partitions(list(range(pattern[0])))) if slow_grouping(pattern, value)]
            fewest = min(map(len, right))
            self.assertEqual(groups(pattern), min(value for value in right if len(value) == fewest))
            for number in range(9):
                self.assertEqual(group_count(pattern, number), [len(value) for value in right].count(number))

    def test_as_many_as_may_be(self):
        for seed in range(12):
            pattern = random_pattern(seed, 8, 8)
            found = groups(pattern)
            self.assertIs(is_grouping(pattern, found), True)
            self.assertGreater(group_count(pattern, len(found)), 0)
            if found:
                self.assertEqual(group_count(pattern, len(found) - 1), 0)
            self.assertGreaterEqual(len(found), len(together(pattern)))


class TogetherTest(unittest.TestCase):

    def test_edges(self):
        self.assertEqual([together(NONE), together((0, ((),))), together(BARE), together((2, ((), (1,)))), together(FULL)],
                         [(), (), (0,), (0,), tuple(range(8))])

    def test_each_two_in_another_lot(self):
        self.assertEqual([together(PAIRWISE), together(RING), together((5, RING[1] + ((1, 4),)))],
                         [(0, 1, 2, 3), (0, 1), (0, 1, 4)])

    def test_all_tuples(self):
        for seed in range(60):
            pattern = random_pattern(seed, seed % 9, seed % 7)
            right = [some for size in range(pattern[0] + 1) for some in combinations(range(pattern[0]), size)
                     if all(any(one in lot and other in lot for lot in pattern[1]) for one, other in combinations(some, 2))]
            longest = max(map(len, right))
            self.assertEqual(together(pattern), min(some for some in right if len(some) == longest))


class SqueezedTest(unittest.TestCase):

    def test_examples(self):
        self.assertEqual(squeezed(Q, ((0, 2), (1,)), (2, 3, 5)), ((3, 1, 1), (2, 1, 0)))
        self.assertEqual(rates_by(Q, ((0, 2), (1,)), (2, 3, 5)), ((3, 2, 0), (0, 1, 1), (0, 0, 1)))

    def test_random_rows(self):
        for seed in range(60):
            row = random_row(seed, seed % 6, 20, 4, most=4)
            point = random_point(seed, row[0], 10 ** 20)
            rates = rates_at(row, point)
            for grouping in (groups(pattern_of(row)), tuple((k,) for k in range(row[0]))):
                found = squeezed(row, grouping, point)
                self.assertEqual(found, tuple(tuple(sum(some[k] for k in group) for some in rates) for group in grouping))
                self.assertEqual(rates_by(row, grouping, point), rates)
                self.assertEqual([type(found), type(rates_by(row, grouping, point))], [tuple, tuple])

    def test_without_inputs(self):
        row = (0, (("set", 3),), (0, 0))
        self.assertEqual([squeezed(row, (), ()), rates_by(row, (), ())], [(), ((), ())])

    def test_inputs_on_which_nothing_hangs(self):
        row = (3, (("in", 1), ("-", 0, 0)), (0, 1))
        self.assertEqual(groups(pattern_of(row)), ((0, 1, 2),))
        self.assertEqual(squeezed(row, ((0, 1, 2),), (4, 5, 6)), ((1, 0),))
        self.assertEqual(rates_by(row, ((0, 1, 2),), (4, 5, 6)), ((0, 1, 0), (0, 0, 0)))

    def test_rates_that_are_nought_at_the_point(self):
        self.assertEqual(rates_by(Q, ((0, 2), (1,)), (0, 0, 0)), ((0, 0, 0), (0, 1, 1), (0, 0, 1)))

    def test_as_many_as_may_be(self):
        table = tuple(tuple(int(abs(one - other) < 2) * (one + 2) for other in range(8)) for one in range(8))
        row = row_of(8, table, (5,) * 8)
        self.assertEqual(len(groups(pattern_of(row))), 3)
        self.assertEqual(rates_by(row, groups(pattern_of(row)), (1,) * 8), table)

    def test_too_wide(self):
        for row in (BEYOND, TAKEN_AWAY):
            for work in (squeezed, rates_by):
                for grouping in (((0,), (1,)), ()):
                    with self.assertRaises(TooWide):
                        work(row, grouping, (1, 1))
        self.assertEqual(rates_by(JUST, ((0,), (1,)), (1, 2)), rates_at(JUST, (1, 2)))


class BothTest(unittest.TestCase):

    def slow_both(self, pattern, value):
        if type(value) is not tuple or len(value) != 2:
            return False
        if not slow_tuples(value[0], pattern[0]) or not slow_tuples(value[1], len(pattern[1])):
            return False
        lots = pattern[1]
        for end, lot in enumerate(lots):
            for number in lot:
                ahead = any(number in some and not set(some) & set(lot) - {number} for some in value[0])
                back = any(end in some and not [k for k in some if k != end and number in lots[k]] for some in value[1])
                if not ahead and not back:
                    return False
        return True

    def partial(self, many):
        found = []
        for size in range(many + 1):
            for some in combinations(range(many), size):
                found += [as_tuples(partition) for partition in partitions(list(some))]
        return found

    def test_examples(self):
        self.assertEqual([both_groups(Y), both_groups((2, ((), ())))], [(((0,),), ((0,), (1, 2, 3))), ((), ())])
        self.assertIs(is_both(Y, (((0,), (1, 2, 3)), ((0,),))), True)

    def test_what_is_none(self):
        for value in (((), ()), (((0,), (1, 2, 3)), ()), (((0,),), ((0,),)), [((0,), (1, 2, 3)), ((0,),)],
                      (((0,), (1, 2, 3)),), (((0,), (1, 2, 3)), ((0,),), ()), (((1, 2, 3), (0,)), ((0,),)),
                      (((0,), (1, 2), (2, 3)), ((0,),)), (((0,), (1, 2, 3)), ((0,), (0,))), (((0,), (1, 2, 3)), ((4,),)),
                      (((0,), (1, 2, 3)), ((0,), ())), (((0,), (1, 3, 2)), ((0,),)), (((0,), (1, 2, 3)), (0,)),
                      (((0,), (1, 2, 3)), ((False,),))):
            self.assertIs(is_both(Y, value), False, value)

    def test_needless_tuples_are_let(self):
        self.assertIs(is_both((3, ()), (((0, 2), (1,)), ())), True)
        self.assertIs(is_both((2, ((0,),)), (((0,), (1,)), ((0,),))), True)
        self.assertIs(is_both(NONE, ((), ())), True)
        self.assertIs(is_both((0, ((), ())), ((), ((0, 1),))), True)
        self.assertIs(is_both((0, ()), (((0,),), ())), False)

    def test_numbers_at_both_sides(self):
        self.assertIs(is_both((1, ((0,),)), (((0,),), ((0,),))), True)
        self.assertIs(is_both(FULL, (tuple((k,) for k in range(8)), ())), True)
        self.assertIs(is_both(FULL, ((), tuple((k,) for k in range(8)))), True)
        self.assertIs(is_both(FULL, (tuple((k,) for k in range(7)), ())), False)

    def test_bent_values(self):
        for pattern, both in ((Y, both_groups(Y)), (P, both_groups(P)), (RING, (groups(RING), ((0, 2),)))):
            self.assertIs(is_both(pattern, both), True)
            for value in list(bent(both)) + [lists_of(both)]:
                self.assertIs(is_both(pattern, value), self.slow_both(pattern, value))

    def test_odd_values(self):
        for value in ODD:
            self.assertIs(is_both(NONE, value), False)
            self.assertIs(is_both(NONE, ((), value)), value == () and type(value) is tuple)
            self.assertIs(is_both(NONE, (value, ())), value == () and type(value) is tuple)

    def test_the_first_one_of_all(self):
        for seed in range(40):
            pattern = random_pattern(seed, seed % 5, (seed // 5) % 5)
            right = [(ahead, back) for ahead in self.partial(pattern[0]) for back in self.partial(len(pattern[1]))
                     if self.slow_both(pattern, (ahead, back))]
            fewest = min(len(ahead) + len(back) for ahead, back in right)
            wanted = min(value for value in right if len(value[0]) + len(value[1]) == fewest)
            self.assertEqual(both_groups(pattern), wanted)
            self.assertIs(is_both(pattern, wanted), True)

    def test_great_patterns(self):
        for pattern in ((5, ()), (0, ((),) * 5), (5, ((0,),) * 5), FULL, RING, PAIRWISE):
            with self.assertRaises(TooGreat) as caught:
                both_groups(pattern)
            self.assertEqual(caught.exception.limit, 4)
        self.assertEqual(both_groups((4, ((0, 1, 2, 3),) * 4)), ((), ((0,), (1,), (2,), (3,))))
        self.assertEqual(both_groups(NONE), ((), ()))


class AllTest(unittest.TestCase):

    def test_nothing_that_is_passed_is_changed_and_equal_calls_tell_the_same(self):
        value = [[[0], [1]], [[0]]]
        is_both(P, value)
        is_grouping(P, value)
        self.assertEqual(value, [[[0], [1]], [[0]]])
        before = repr((P, Q, Y))
        for work in (groups, together, both_groups):
            self.assertEqual(work(P), work(P))
        self.assertEqual(repr((P, Q, Y)), before)

    def test_orders_of_lots_do_not_matter_for_groups(self):
        for lots in permutations(RING[1]):
            self.assertEqual(groups((5, lots)), groups(RING))

    def test_arguments_by_name(self):
        grouping = groups(pattern=P)
        self.assertIs(is_grouping(value=grouping, pattern=P), True)
        self.assertEqual([group_count(number=2, pattern=P), together(pattern=P)], [1, (0, 1)])
        self.assertEqual(squeezed(point=(2, 3, 5), grouping=grouping, row=Q), ((3, 1, 1), (2, 1, 0)))
        self.assertEqual(rates_by(point=(2, 3, 5), grouping=grouping, row=Q), rates_at(Q, (2, 3, 5)))
        self.assertIs(is_both(value=both_groups(pattern=P), pattern=P), True)


if __name__ == "__main__":
    unittest.main()
