import random
import unittest
from itertools import combinations, permutations

from helper import ODD, bent, lists_of, random_point, random_row
from rowsback.errors import Unfit
from rowsback.matches import blocks, cover, is_cover, is_pairs, pairs
from rowsback.patterns import pattern_of, turned_pattern
from rowsback.rates import rates_at
from rowsback.reach import rank
from rowsback.straight import row_of

P = (3, ((0, 1), (1, 2), (2,)))
W = (2, ((0,), (0,)))
NONE, NO_LOTS, NO_INPUTS = (0, ()), (8, ()), (0, ((),) * 8)
FULL = (8, (tuple(range(8)),) * 8)
RING = (8, tuple((0, 7) if k == 7 else (k, k + 1) for k in range(8)))


def random_pattern(seed, inputs, ends):
    rng = random.Random(seed)
    often = rng.choice((0.1, 0.2, 0.3, 0.5, 0.8))
    return (inputs, tuple(tuple(k for k in range(inputs) if rng.random() < often) for _ in range(ends)))


def marks_of(pattern):
    return [(end, number) for end, lot in enumerate(pattern[1]) for number in lot]


def most_pairs(pattern, end=0, used=()):
    """Return how many pairs there can be."""
    if end == len(pattern[1]):
        return 0
    found = [most_pairs(pattern, end + 1, used)]
    found += [1 + most_pairs(pattern, end + 1, used + (k,)) for k in pattern[1][end] if k not in used]
    return max(found)


def fewest_in_cover(pattern):
    many, lots = pattern
    found = []
    for count in range(len(lots) + 1):
        for ends in combinations(range(len(lots)), count):
            found.append(count + len({k for end, lot in enumerate(lots) if end not in ends for k in lot}))
    return min(found)


def small_patterns():
    for inputs in range(4):
        lots = [some for many in range(inputs + 1) for some in combinations(range(inputs), many)]
        yield (inputs, ())
        for one in lots:
            yield (inputs, (one,))
            for other in lots:
                yield (inputs, (one, other))
                for third in lots:
                    yield (inputs, (one, other, third))


class PairsTest(unittest.TestCase):

    def check(self, pattern):
        """Look that there are as many pairs as can be, and a cover of as many numbers; return how many."""
        found, over = pairs(pattern), cover(pattern)
        self.assertIs(is_pairs(pattern, found), True)
        self.assertIs(is_cover(pattern, over), True)
        self.assertEqual(len(over[0]) + len(over[1]), len(found))
        self.assertEqual([type(found), type(over), type(over[0]), type(over[1])], [tuple] * 4)
        self.assertEqual([pairs(pattern), cover(pattern)], [found, over])
        return len(found)

    def test_examples(self):
        self.assertEqual([len(pairs(P)), len(pairs(W)), cover(W)], [3, 1, ((), (0,))])
        self.assertEqual([is_cover(P, ((), (0, 1, 2))), is_cover(W, ((0,), ())), is_pairs(P, ((0, 1), (1, 2)))],
                         [True, False, True])

    def test_small_patterns(self):
        for pattern in small_patterns():
            many = self.check(pattern)
            self.assertEqual([many, many], [most_pairs(pattern), fewest_in_cover(pattern)])

    def test_few_and_many_marks(self):
        self.assertEqual([self.check(one) for one in (NONE, NO_LOTS, NO_INPUTS, FULL, RING)], [0, 0, 0, 8, 8])
        self.assertEqual([cover(NONE), cover(NO_LOTS), cover((3, ((), ())))], [((), ())] * 3)
        self.assertEqual([self.check((8, ((),) * 7 + ((5,),))), self.check((8, ((3,),) * 8))], [1, 1])
        self.assertEqual([self.check((8, (tuple(range(8)),))), self.check((1, ((0,),) * 8))], [1, 1])
        self.assertEqual(self.check((8, tuple(tuple(range(k + 1)) for k in range(8)))), 8)
        self.assertEqual(self.check((8, tuple(tuple(range(k, 8)) for k in range(8)))), 8)
        self.assertEqual(self.check((8, tuple(tuple(range(8)) if k < 3 else (7,) for k in range(8)))), 4)

    def test_ends_that_must_be_paired_otherwise(self):
        # Each end would like the first input; all but the last one must take another.
        self.assertEqual(self.check((4, ((0, 1), (0, 2), (0, 3), (0,)))), 4)
        self.assertEqual(self.check((5, ((0, 1), (1, 2), (2, 3), (3, 4), (0,)))), 5)
        self.assertEqual(self.check((3, ((0, 1), (0, 1), (0, 1)))), 2)

    def test_random_patterns(self):
        counts = {}
        for seed in range(250):
            pattern = random_pattern(seed, seed % 9, (seed // 9) % 9)
            many = self.check(pattern)
            self.assertEqual(many, self.check(turned_pattern(pattern)))
            if many <= 5:
                self.assertEqual(many, most_pairs(pattern))
            self.assertEqual(many, fewest_in_cover(pattern))
            counts[many] = counts.get(many, 0) + 1
        self.assertGreater(len(counts), 6)

    def test_no_rates_have_a_greater_rank(self):
        least_missing = 9
        for seed in range(60):
            row = random_row(seed, 1 + seed % 5, 20, 1 + seed % 6, most=4)
            many = len(pairs(pattern_of(row)))
            for other in range(3):
                rates = rates_at(row, random_point(seed + other, row[0], 9))
                found = rank(row_of(row[0], rates, (0,) * len(rates)))
                self.assertLessEqual(found, many)
                least_missing = min(least_missing, many - found)
        self.assertEqual(least_missing, 0)


class IsPairsTest(unittest.TestCase):

    def slow(self, pattern, value):
        if type(value) is not tuple:
            return False
        for mark in value:
            if type(mark) is not tuple or len(mark) != 2 or [type(k) for k in mark] != [int, int]:
                return False
            if mark not in marks_of(pattern):
                return False
        ends, inputs = [mark[0] for mark in value], [mark[1] for mark in value]
        return list(value) == sorted(value) and len(set(ends)) == len(ends) and len(set(inputs)) == len(inputs)

    def test_however_many(self):
        for value in ((), ((0, 0),), ((0, 1),), ((0, 1), (1, 2)), ((0, 0), (1, 1), (2, 2)), ((2, 2),)):
            self.assertIs(is_pairs(P, value), True)

    def test_wrong_values(self):
        for value in (((0, 2),), ((1, 2), (0, 1)), ((0, 0), (0, 0)), ((0, 0), (0, 1)), ((1, 2), (2, 2)), ((0, 1), (1, 1)),
                      ((3, 0),), ((-1, 2),), ((0, -1),), ((0, 3),), ((False, 0),), ((0, True),), ((0, 0, 0),), ((0,),),
                      ((),), [(0, 1)], ([0, 1],), (0, 1), ((0, 1), None)):
            self.assertIs(is_pairs(P, value), False, value)

    def test_all_tuples_of_marks(self):
        for seed in range(12):
            pattern = random_pattern(seed, 3, 3)
            for many in range(4):
                for value in permutations(marks_of(pattern), many):
                    self.assertIs(is_pairs(pattern, value), self.slow(pattern, value))

    def test_bent_values(self):
        for pattern in (P, RING, NONE):
            right = pairs(pattern)
            for value in bent(right):
                self.assertIs(is_pairs(pattern, value), self.slow(pattern, value), value)
        self.assertIs(is_pairs(P, lists_of(pairs(P))), False)
        for value in ODD:
            self.assertIs(is_pairs(P, value), self.slow(P, value))


class IsCoverTest(unittest.TestCase):

    def slow(self, pattern, value):
        if type(value) is not tuple or len(value) != 2:
            return False
        for some, many in zip(value, (len(pattern[1]), pattern[0])):
            if type(some) is not tuple or not all(type(k) is int and 0 <= k < many for k in some):
                return False
            if list(some) != sorted(set(some)):
                return False
        return all(end in value[0] or number in value[1] for end, number in marks_of(pattern))

    def test_however_many(self):
        for value in (((), (0, 1, 2)), ((0, 1, 2), ()), ((0, 1, 2), (0, 1, 2)), ((0,), (1, 2)), ((0, 1), (2,))):
            self.assertIs(is_cover(P, value), True)
        self.assertEqual([is_cover(NONE, ((), ())), is_cover(NO_LOTS, ((), ())), is_cover(NO_INPUTS, ((), ()))], [True] * 3)
        self.assertEqual([is_cover(NO_LOTS, ((), (3,))), is_cover(NO_LOTS, ((0,), ()))], [True, False])

    def test_wrong_values(self):
        for value in (((), ()), ((0,), (2,)), ((0, 1), ()), ((), (0, 1)), ((0, 1, 3), (2,)), ((0, 1), (2, 3)), ((1, 0), (2,)),
                      ((0, 0, 1), (2,)), ((0, 1), (2, 2)), ((0, True), (2,)), ((0, 1), [2]), [(0, 1), (2,)], ((0, 1),),
                      ((0, 1), (2,), ()), ((0, 1), 2), ((-1, 0, 1), (2,)), ((0, 1), None)):
            self.assertIs(is_cover(P, value), False, value)

    def test_all_covers_of_small_patterns(self):
        for seed in range(12):
            pattern = random_pattern(seed, 3, 3)
            some = [one for many in range(4) for one in combinations(range(3), many)]
            for ends in some:
                for inputs in some:
                    self.assertIs(is_cover(pattern, (ends, inputs)), self.slow(pattern, (ends, inputs)))

    def test_bent_values(self):
        for pattern in (P, W, RING, NONE):
            for value in bent(cover(pattern)):
                self.assertIs(is_cover(pattern, value), self.slow(pattern, value), value)
        for value in ODD:
            self.assertIs(is_cover(P, value), False)


class BlocksTest(unittest.TestCase):

    def leads(self, pattern):
        """Return all pairs of unlike inputs of which the first one leads to the second one."""
        many, lots = pattern
        found = {(one, other) for other in range(many) for one in lots[other] if one != other}
        for middle in range(many):
            found |= {(one, other) for one in range(many) for other in range(many)
                      if (one, middle) in found and (middle, other) in found and one != other}
        return found

    def slow(self, pattern):
        """Return the first one of all orders of the blocks in which each stands behind those that lead to it."""
        leads = self.leads(pattern)
        many = pattern[0]
        found = {tuple(k for k in range(many) if k == one or (one, k) in leads and (k, one) in leads) for one in range(many)}
        right = []
        for order in permutations(sorted(found)):
            place = {k: index for index, block in enumerate(order) for k in block}
            if all(place[one] <= place[other] for one, other in leads):
                right.append(order)
        return min(right)

    def test_examples(self):
        self.assertEqual([blocks((3, ((0, 1), (0, 1), (1, 2)))), blocks((3, ((1,), (2,), ()))), blocks((0, ()))],
                         [((0, 1), (2,)), ((2,), (1,), (0,)), ()])

    def test_edges(self):
        singles = tuple((k,) for k in range(8))
        self.assertEqual(blocks((8, ((),) * 8)), singles)
        self.assertEqual(blocks((8, singles)), singles)
        self.assertEqual([blocks(RING), blocks(FULL), blocks(turned_pattern(RING))], [(tuple(range(8)),)] * 3)
        self.assertEqual(blocks((8, tuple((k + 1,) if k < 7 else () for k in range(8)))), singles[::-1])
        self.assertEqual([blocks((1, ((),))), blocks((1, ((0,),)))], [((0,),), ((0,),)])

    def test_the_first_of_several_orders(self):
        # The input 2 leads to 0; 1 may stand anywhere: as early as can be.
        self.assertEqual(blocks((3, ((2,), (), ()))), ((1,), (2,), (0,)))
        self.assertEqual(blocks((4, ((3,), (), (), (3,)))), ((1,), (2,), (3,), (0,)))
        self.assertEqual(blocks((5, ((3,), (4,), (2,), (0, 3), (1,)))), ((0, 3), (1, 4), (2,)))
        self.assertEqual(blocks((4, ((2, 3), (), (1,), (0,)))), ((1,), (2,), (0, 3)))

    def test_random_patterns(self):
        many_blocks = {}
        for seed in range(200):
            many = seed % 7
            pattern = random_pattern(seed, many, many)
            found = blocks(pattern)
            self.assertEqual(found, self.slow(pattern), pattern)
            many_blocks[len(found)] = many_blocks.get(len(found), 0) + 1
        self.assertGreater(len(many_blocks), 5)

    def test_lots_have_no_input_of_a_later_block(self):
        for seed in range(60):
            pattern = random_pattern(seed, 8, 8)
            found = blocks(pattern)
            self.assertEqual(sorted(k for block in found for k in block), list(range(8)))
            for index, block in enumerate(found):
                self.assertEqual(list(block), sorted(block))
                later = [k for other in found[index + 1:] for k in other]
                self.assertEqual([k for number in block for k in pattern[1][number] if k in later], [])

    def test_unfit(self):
        for pattern in ((0, ((),)), (1, ()), (3, ((), ())), (2, ((), (), ())), (8, ((),) * 7), NO_LOTS):
            with self.assertRaises(Unfit):
                blocks(pattern)


class AllTest(unittest.TestCase):

    def test_nothing_that_is_passed_is_changed_and_equal_calls_tell_the_same(self):
        before = repr((P, W, RING))
        value = [[0, 1], [1, 2]]
        for pattern in (P, W, RING):
            for call in (pairs, cover, lambda one: is_pairs(one, value), lambda one: is_cover(one, value),
                         lambda one: blocks((one[0], one[1][:one[0]]))):
                self.assertEqual(call(pattern), call(pattern))
        self.assertEqual([repr((P, W, RING)), value], [before, [[0, 1], [1, 2]]])

    def test_arguments_by_name(self):
        self.assertEqual([len(pairs(pattern=P)), is_pairs(value=(), pattern=P), cover(pattern=W)], [3, True, ((), (0,))])
        self.assertEqual([is_cover(value=((), (0,)), pattern=W), blocks(pattern=NONE)], [True, ()])


if __name__ == "__main__":
    unittest.main()
