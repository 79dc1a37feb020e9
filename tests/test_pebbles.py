import unittest

from helper import HUGE, ODD, bent, lists_of
from rowsback.errors import TooGreat
from rowsback.holding import orders_counted
from rowsback.pebbles import acts_needed, farthest, is_way, pebble_way, pebbles_needed, ways_counted


def fewest(spots, pebbles):
    """Return the fewest acts of a way and how many ways have as few, by going through all that can lie; (None, 0) if none."""
    last = frozenset([spots])
    seen, ways, acts = {frozenset()}, {frozenset(): 1}, 0
    while ways:
        if last in ways:
            return acts, ways[last]
        longer = {}
        for lying, count in ways.items():
            for spot in range(1, spots + 1):
                if spot == 1 or spot - 1 in lying:
                    grown = lying ^ {spot}
                    if len(grown) <= pebbles and grown not in seen:
                        longer[grown] = longer.get(grown, 0) + count
        seen |= set(longer)
        ways, acts = longer, acts + 1
    return None, 0


def slow_way(spots, pebbles, value):
    if type(value) is not tuple or not value:
        return False
    lying = set()
    for spot in value:
        if type(spot) is not int or not 1 <= spot <= spots or spot > 1 and spot - 1 not in lying:
            return False
        lying ^= {spot}
        if len(lying) > pebbles:
            return False
    return lying == {spots}


class NeededTest(unittest.TestCase):

    def test_examples(self):
        self.assertEqual([pebbles_needed(1), pebbles_needed(3), pebbles_needed(4), pebbles_needed(60)], [1, 3, 3, 7])
        self.assertEqual([acts_needed(2, 2), acts_needed(4, 3), acts_needed(4, 4), acts_needed(3, 2)], [3, 9, 7, None])
        self.assertEqual([pebble_way(3, 3), farthest(3, 9), farthest(3, 8), ways_counted(3, 3)], [(1, 2, 3, 2, 1), 4, 3, 1])
        self.assertEqual([is_way(3, 3, (1, 2, 1, 3, 1, 2, 1)), is_way(3, 2, (1, 2, 1, 3, 1, 2, 1)), is_way(2, 2, (1, 2))],
                         [True, False, False])

    def test_pebbles_needed(self):
        wanted = [1, 2, 3, 3, 4, 4, 4, 4] + [5] * 8 + [6] * 16 + [7] * 28
        self.assertEqual([pebbles_needed(spots) for spots in range(1, 61)], wanted)

    def test_none_just_where_there_is_no_way(self):
        for spots in range(1, 61):
            for pebbles in list(range(1, 9)) + [60] * (spots > 55):
                there = spots <= 2 ** (pebbles - 1)
                self.assertEqual(acts_needed(spots, pebbles) is not None, there)
                self.assertEqual(pebble_way(spots, pebbles) is not None, there)
                self.assertEqual(pebbles_needed(spots) <= pebbles, there)

    def test_acts_needed_by_going_through_all(self):
        for spots in range(1, 12):
            for pebbles in range(1, spots + 2):
                acts, ways = fewest(spots, pebbles)
                self.assertEqual(acts_needed(spots, pebbles), acts, (spots, pebbles))
                if spots <= 10:
                    self.assertEqual(ways_counted(spots, pebbles), ways)

    def test_just_enough_pebbles_for_as_many_spots_as_may_be(self):
        # Found once by going through all that can lie on so many spots.
        self.assertEqual([acts_needed(2 ** k, k + 1) for k in range(6)], [1, 3, 9, 25, 71, 193])
        self.assertEqual([acts_needed(28, 6), acts_needed(24, 6), acts_needed(20, 9), acts_needed(21, 7)], [145, 109, 61, 69])
        self.assertEqual([acts_needed(60, 60), acts_needed(60, 59), acts_needed(1, 60), acts_needed(1, 1)], [119, 121, 1, 1])

    def test_ways_of_just_as_few_acts(self):
        for spots in list(range(1, 25)) + [31, 32, 33, 47, 59, 60]:
            for pebbles in list(range(1, 9)) + [spots, 60]:
                way = pebble_way(spots, pebbles)
                if way is not None:
                    self.assertEqual([type(way), len(way)], [tuple, acts_needed(spots, pebbles)])
                    self.assertIs(is_way(spots, pebbles, way), True)
                    self.assertIs(slow_way(spots, pebbles, way), True)
                    self.assertEqual(pebble_way(spots, pebbles), way)

    def test_lines_of_one_and_two_spots(self):
        self.assertEqual([pebble_way(1, 1), pebble_way(1, 60), pebble_way(2, 1), pebble_way(2, 2), pebble_way(2, 60)],
                         [(1,), (1,), None, (1, 2, 1), (1, 2, 1)])
        self.assertEqual([acts_needed(2, 1), acts_needed(2, 60), acts_needed(60, 1), pebble_way(60, 1), pebble_way(60, 6)],
                         [None, 3, None, None, None])


class IsWayTest(unittest.TestCase):

    def test_acts_left_out_put_in_and_exchanged(self):
        for spots, pebbles in ((3, 3), (4, 3), (5, 4), (8, 4), (1, 1), (2, 2)):
            way = pebble_way(spots, pebbles)
            for index in range(len(way) + 1):
                changed = [way[:index] + (spot,) + way[index:] for spot in range(0, spots + 2)]
                changed += [way[:index] + way[index + 1:], way[:index] + way[index:][::-1]]
                changed += [way[:index] + (spot,) + way[index + 1:] for spot in range(0, spots + 2)]
                changed += [way[:index] + (spot, spot) + way[index:] for spot in range(1, spots + 1)]
                for value in changed:
                    self.assertIs(is_way(spots, pebbles, value), slow_way(spots, pebbles, value), value)

    def test_one_pebble_too_many_at_one_moment_only(self):
        way = (1, 2, 3, 2, 1)
        self.assertEqual([is_way(3, 3, way), is_way(3, 2, way), is_way(3, 60, way)], [True, False, True])
        # Two acts that take each other back, with one pebble more between them.
        more = pebble_way(4, 3)
        self.assertIs(is_way(4, 3, more), True)
        first = [index for index in range(len(more)) if len(set(s for s in more[:index] if more[:index].count(s) % 2)) == 3][0]
        for spot in (1, 2, 3, 4):
            longer = more[:first] + (spot, spot) + more[first:]
            self.assertIs(is_way(4, 3, longer), slow_way(4, 3, longer))
        self.assertIs(is_way(4, 2, more), False)

    def test_however_many_acts(self):
        self.assertIs(is_way(2, 2, (1, 1) * 5000 + (1, 2, 1)), True)
        self.assertIs(is_way(2, 2, (1, 1) * 5000 + (1, 2)), False)
        self.assertIs(is_way(1, 1, (1,) * 4001), True)
        self.assertIs(is_way(1, 1, (1,) * 4000), False)

    def test_spots_that_are_none(self):
        for value in ((), (True,), (1, 2, True), (0,), (2,), (-1,), (1, 1, None), ("1",), (1.0,), [1], (1, 3), (HUGE,), ((1,),)):
            self.assertIs(is_way(1, 1, value), False, value)
        self.assertEqual([is_way(2, 2, value) for value in ((True, 2, 1), (1, 2, True), [1, 2, 1], (1, 2, 1), (1, 2, 3))],
                         [False, False, False, True, False])

    def test_what_lies_at_last(self):
        self.assertEqual([is_way(3, 3, value) for value in ((1, 2, 3), (1, 2, 3, 1), (1, 2, 3, 2), (1, 2, 1), (1, 2, 3, 2, 1, 1),
                                                            (1, 2, 3, 2, 1, 1, 1))], [False] * 5 + [True])

    def test_bent_values(self):
        for value in bent(pebble_way(4, 3)):
            self.assertIs(is_way(4, 3, value), slow_way(4, 3, value))
        for value in ODD:
            self.assertIs(is_way(4, 3, value), False)
        self.assertIs(is_way(4, 3, lists_of(pebble_way(4, 3))), False)


class FarthestTest(unittest.TestCase):

    def test_by_trying_all_spots(self):
        for pebbles in range(1, 9):
            counts = [acts_needed(spots, pebbles) for spots in range(1, 61)]
            for acts in list(range(1, 40)) + [100, 119, 120, 241, 450, 451, 728, 729, 10 ** 9]:
                wanted = max(spots for spots in range(1, 61) if counts[spots - 1] is not None and counts[spots - 1] <= acts)
                self.assertEqual(farthest(pebbles, acts), wanted)

    def test_few_and_many_acts(self):
        self.assertEqual([farthest(1, 1), farthest(60, 1), farthest(1, 10 ** 9), farthest(60, 10 ** 9)], [1, 1, 1, 60])
        self.assertEqual([farthest(60, 2), farthest(60, 3), farthest(2, 10 ** 9), farthest(6, 10 ** 9)], [1, 2, 2, 32])

    def test_no_more_spots_than_a_line_may_have(self):
        self.assertEqual([farthest(7, 10 ** 9), farthest(60, 119), farthest(60, 118)], [60, 60, 59])


class WaysCountedTest(unittest.TestCase):

    def test_by_going_through_all(self):
        for spots in range(1, 11):
            for pebbles in (1, 2, 3, 4, 5, 6, 9, 10, 60):
                self.assertEqual(ways_counted(spots, pebbles), fewest(spots, pebbles)[1])

    def test_one_way_with_pebbles_for_all_spots_none_with_too_few(self):
        self.assertEqual([ways_counted(spots, spots) for spots in range(1, 11)], [1] * 10)
        self.assertEqual([ways_counted(2, 1), ways_counted(5, 3), ways_counted(10, 4), ways_counted(9, 4)], [0, 0, 0, 0])
        self.assertGreater(ways_counted(10, 5), 1000)

    def test_too_great(self):
        for spots, pebbles in ((11, 11), (11, 1), (60, 60), (60, 2), (11, 60)):
            with self.assertRaises(TooGreat) as caught:
                ways_counted(spots, pebbles)
            self.assertEqual(caught.exception.limit, 10)


class AllTest(unittest.TestCase):

    def test_ways_beside_orders(self):
        """A line of steps gone there alone has just one order; going back needs acts, too."""
        for spots in range(1, 11):
            line = (1, (("in", 0),) + tuple(("neg", k) for k in range(spots - 1)), (spots - 1,))
            self.assertEqual([orders_counted(line), ways_counted(spots, spots)], [1, 1])
            self.assertEqual(acts_needed(spots, spots), 2 * spots - 1)

    def test_nothing_that_is_passed_is_changed_and_equal_calls_tell_the_same(self):
        value = [1, 2, 1]
        self.assertIs(is_way(2, 2, value), False)
        self.assertEqual(value, [1, 2, 1])
        self.assertEqual([pebble_way(20, 6), farthest(5, 33), ways_counted(7, 4)], [pebble_way(20, 6), farthest(5, 33), ways_counted(7, 4)])

    def test_arguments_by_name(self):
        self.assertEqual([pebbles_needed(spots=4), acts_needed(pebbles=3, spots=4), pebble_way(pebbles=3, spots=3)],
                         [3, 9, (1, 2, 3, 2, 1)])
        self.assertEqual([is_way(value=(1,), pebbles=1, spots=1), farthest(acts=9, pebbles=3), ways_counted(pebbles=3, spots=3)],
                         [True, 4, 1])


if __name__ == "__main__":
    unittest.main()
