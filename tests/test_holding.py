import functools
import random
import unittest
from itertools import permutations

from helper import ODD, bent, chain, full_row, random_row
from rowsback.errors import BadPlan, TooGreat
from rowsback.holding import (are_slots, best_counted, best_order, held, is_order, is_wood, least_load, load,
                              orders_counted, slots)
from rowsback.rows import needed, row_error

S = (4, (("in", 0), ("in", 1), ("in", 2), ("in", 3), ("*", 0, 1), ("*", 2, 3), ("+", 4, 5)), (6,))
O = (0, 1, 4, 2, 3, 5, 6)
X = (1, (("in", 0), ("set", 7), ("*", 0, 0), ("+", 2, 0)), (3, 2))


def parts(row, number):
    step = row[1][number]
    return step[1:] if step[0] not in ("in", "set") else ()


def slow_order(row, value):
    if type(value) is not tuple or any(type(number) is not int for number in value):
        return False
    if sorted(value) != list(needed(row)):
        return False
    return all(part in value[:place] for place, number in enumerate(value) for part in parts(row, number))


def slow_held(row, order):
    """Return the sets of steps held behind each step, word by word."""
    found = []
    for place in range(len(order)):
        later = {part for number in order[place + 1:] for part in parts(row, number)}
        found.append({number for number in order[:place + 1] if number in row[2] or number in later})
    return found


def slow_wood(row):
    for number in needed(row):
        users = {user for user in needed(row) if number in parts(row, user)}
        if number in row[2] and users or number not in row[2] and len(users) != 1:
            return False
    return True


def all_orders(row):
    return [order for order in permutations(needed(row)) if slow_order(row, order)]


def slow_count(row, most):
    """Return how many orders hold at most so many steps behind each step, by the sets of steps that are left."""
    @functools.lru_cache(maxsize=None)
    def count(left):
        if not left:
            return 1
        here = set(needed(row)) - left
        if len([k for k in here if k in row[2] or any(k in parts(row, user) for user in left)]) > most:
            return 0
        return sum(count(left - {k}) for k in left if not set(parts(row, k)) & left)
    return count(frozenset(needed(row))) if len(set(row[2])) <= most else 0


def small_rows(count, most):
    """Yield random rows with at most so many needed steps."""
    for seed in range(count):
        row = random_row(seed, seed % 3, 3 + seed % (most + 6), 1 + seed % 4, most=8)
        if len(needed(row)) <= most:
            yield row


def random_wood(seed, steps):
    """Return a wood of so many steps; at most 8 trees have ends."""
    rng = random.Random(seed)
    made, free = [], []
    while len(made) < steps:
        word = rng.choice(("set", "set", "neg", "+", "-", "same"))
        if word in ("+", "-") and len(free) > 1:
            step = (word, free.pop(rng.randrange(len(free))), free.pop(rng.randrange(len(free))))
        elif word in ("neg", "same") and free:
            part = free.pop(rng.randrange(len(free)))
            step = ("neg", part) if word == "neg" else ("*", part, part)
            if word == "same" and len(made) > 12:
                step = ("+", part, part)
        else:
            step = ("set", len(made))
        made.append(step)
        free.append(len(made) - 1)
    while len(free) > 8:
        made.append(("-", free.pop(0), free.pop(0)))
        free.append(len(made) - 1)
    rng.shuffle(free)
    return (0, tuple(made), tuple(free + free[:rng.randrange(1 + min(len(free), 8 - len(free)))]))


class OrderTest(unittest.TestCase):

    def test_examples(self):
        self.assertEqual([held(S, O), load(S, O), load(S, (0, 1, 2, 3, 4, 5, 6)), slots(S, O), is_order(S, O[::-1])],
                         [(1, 2, 1, 2, 3, 2, 1), 3, 4, (0, 1, 0, 1, 2, 1, 0), False])
        self.assertEqual([held(X, (0, 2, 3)), are_slots(X, (0, 2, 3), (0, 1, 0)), are_slots(X, (0, 2, 3), (0, 0, 1))],
                         [(1, 2, 2), True, False])

    def test_what_is_an_order(self):
        self.assertIs(is_order(S, O), True)
        for value in (O[:-1], O + (6,), O[1:], (1, 0) + O[2:], (0, 4, 1) + O[3:], (0, 1, 4, 2, 3, 6, 5), O + (7,),
                      (0, 1, 4, 2, 3, 5, 5), (False, True) + O[2:], list(O), (), None, tuple(map(str, O))):
            self.assertIs(is_order(S, value), slow_order(S, value))
            self.assertIs(is_order(S, value), value == (1, 0) + O[2:] and True)

    def test_steps_that_are_not_needed(self):
        self.assertIs(is_order(X, (0, 2, 3)), True)
        for value in ((0, 1, 2, 3), (1, 0, 2, 3), (0, 3, 2), (0, 2), (2, 0, 3)):
            self.assertIs(is_order(X, value), False)

    def test_bent_values(self):
        for value in list(bent(O)) + list(bent((0, 2, 3))):
            for row in (S, X):
                self.assertIs(is_order(row, value), slow_order(row, value))

    def test_no_orders(self):
        for value in ODD + ((0, 1, 2, 3), [0, 2, 3], (0, 3, 2)):
            for work in (held, load, slots):
                with self.assertRaises(BadPlan) as caught:
                    work(X, value)
                self.assertIs(caught.exception.error, value)

    def test_held_of_all_orders(self):
        for row in small_rows(60, 7):
            for order in all_orders(row)[:200]:
                behind = slow_held(row, order)
                counts = tuple(len(numbers) for numbers in behind)
                self.assertEqual([held(row, order), load(row, order)], [counts, max(counts)])

    def test_ends_that_others_use_stay(self):
        row = (1, (("in", 0), ("neg", 0), ("neg", 1)), (0, 2, 0))
        self.assertEqual([held(row, (0, 1, 2)), slots(row, (0, 1, 2))], [(1, 2, 2), (0, 1, 1)])

    def test_great_rows(self):
        row = full_row()
        order = needed(row)
        self.assertEqual(held(row, order), tuple(map(len, slow_held(row, order))))
        self.assertEqual(held((1, chain(64), (6,)), tuple(range(7))), (1,) * 7)


class SlotsTest(unittest.TestCase):

    def slow_slots(self, row, order):
        behind = [set()] + slow_held(row, order)
        found = {}
        for place, number in enumerate(order):
            taken = {found[other] for other in behind[place] & behind[place + 1]}
            found[number] = next(slot for slot in range(99) if slot not in taken)
        return tuple(found[number] for number in order)

    def slow_right(self, row, order, value):
        if type(value) is not tuple or len(value) != len(order):
            return False
        if any(type(slot) is not int or not 0 <= slot < load(row, order) for slot in value):
            return False
        of = dict(zip(order, value))
        return all(len({of[number] for number in numbers}) == len(numbers) for numbers in slow_held(row, order))

    def test_all_orders(self):
        for row in small_rows(50, 7):
            for order in all_orders(row)[:100]:
                found = slots(row, order)
                self.assertEqual(found, self.slow_slots(row, order))
                self.assertIs(are_slots(row, order, found), True)
                self.assertEqual(len(set(found)), load(row, order))
                self.assertLess(max(found), load(row, order))

    def test_slots_of_others(self):
        self.assertIs(are_slots(S, O, (2, 1, 0, 2, 1, 1, 2)), True)
        for value in ((0, 0, 0, 1, 2, 1, 0), (0, 1, 0, 0, 2, 1, 0), (0, 1, 0, 1, 1, 1, 0), (0, 1, 0, 1, 2, 0, 0)):
            self.assertIs(are_slots(S, O, value), False)
        self.assertIs(are_slots(S, O, (0, 1, 1, 0, 2, 0, 1)), True)

    def test_none_above_the_load_less_one(self):
        self.assertIs(are_slots(S, O, (0, 1, 0, 1, 2, 1, 2)), True)
        self.assertIs(are_slots(S, O, (0, 1, 0, 1, 2, 1, 3)), False)
        self.assertIs(are_slots(S, O, (3, 1, 0, 1, 2, 1, 0)), False)
        self.assertIs(are_slots(S, O, (-1, 1, 0, 1, 2, 1, 0)), False)
        one = (0, (("set", 1), ("neg", 0)), (1,))
        self.assertEqual([are_slots(one, (0, 1), (0, 0)), are_slots(one, (0, 1), (0, 1))], [True, False])

    def test_bent_values(self):
        for order in (O, (0, 1, 2, 3, 4, 5, 6)):
            for value in list(bent(slots(S, order))) + [list(slots(S, order))]:
                self.assertIs(are_slots(S, order, value), self.slow_right(S, order, value))

    def test_odd_values(self):
        for value in ODD:
            self.assertIs(are_slots(X, (0, 2, 3), value), False)


class WoodTest(unittest.TestCase):

    def test_examples(self):
        self.assertEqual([is_wood(S), is_wood(X)], [True, False])

    def test_edges(self):
        self.assertIs(is_wood((1, (("in", 0), ("*", 0, 0)), (1, 1))), True)
        self.assertIs(is_wood((1, (("in", 0), ("*", 0, 0)), (1, 0))), False)
        self.assertIs(is_wood((1, (("in", 0), ("neg", 0), ("neg", 0)), (1, 2))), False)
        self.assertIs(is_wood((1, (("in", 0), ("neg", 0), ("neg", 0)), (1,))), True)
        self.assertIs(is_wood((1, (("in", 0), ("in", 0), ("neg", 0), ("neg", 1)), (3, 2))), True)
        self.assertIs(is_wood((1, (("in", 0), ("neg", 0), ("+", 0, 1)), (2,))), False)
        self.assertIs(is_wood((0, (("set", 1),), (0, 0))), True)

    def test_random_rows(self):
        found = {True: 0, False: 0}
        for seed in range(300):
            row = random_row(seed, seed % 3, 1 + seed % 9, 1 + seed % 3, most=8)
            found[is_wood(row)] += 1
            self.assertIs(is_wood(row), slow_wood(row))
        self.assertGreater(min(found.values()), 30)


class BestTest(unittest.TestCase):

    def check(self, row):
        best = best_order(row)
        self.assertIs(is_order(row, best), True)
        self.assertEqual(load(row, best), least_load(row))
        self.assertEqual(best_order(row), best)
        return least_load(row)

    def test_examples(self):
        self.assertEqual([least_load(S), orders_counted(S)], [3, 80])
        self.assertEqual([least_load(X), best_order(X), orders_counted(X), best_counted(X)], [2, (0, 2, 3), 1, 1])

    def test_all_orders(self):
        kinds = {True: 0, False: 0}
        for row in small_rows(150, 7):
            loads = [load(row, order) for order in all_orders(row)]
            self.assertEqual(self.check(row), min(loads))
            self.assertEqual([orders_counted(row), best_counted(row)], [len(loads), loads.count(min(loads))])
            kinds[is_wood(row)] += 1
        self.assertGreater(min(kinds.values()), 15)

    def test_woods(self):
        for seed in range(120):
            row = random_wood(seed, 1 + seed % 7)
            self.assertIs(is_wood(row), True)
            loads = [load(row, order) for order in all_orders(row)]
            self.assertEqual(self.check(row), min(loads))
            self.assertEqual([orders_counted(row), best_counted(row)], [len(loads), loads.count(min(loads))])

    def test_woods_with_more_steps(self):
        for seed in range(40):
            row = random_wood(seed, 20 + seed)
            self.assertIs(is_wood(row), True)
            self.check(row)

    def test_the_greatest_wood(self):
        steps = [("set", 1)] * 30
        tops = list(range(30))
        while len(tops) > 1:
            steps.append(("+", tops.pop(0), tops.pop(0)))
            tops.append(len(steps) - 1)
        row = (0, tuple(steps) + (("neg", len(steps) - 1),), (len(steps),))
        self.assertEqual([row_error(row), len(row[1]), self.check(row)], [None, 60, 5])
        line = (0, (("set", 1),) + tuple(("neg", k) for k in range(59)), (59, 59))
        self.assertEqual(self.check(line), 1)
        ladder = (0, (("set", 1),) + tuple(step for k in range(29) for step in (("set", 1), ("+", 2 * k, 2 * k + 1))), (58,))
        self.assertEqual([row_error(ladder), self.check(ladder)], [None, 2])

    def test_woods_with_several_ends(self):
        # One tree that needs 3, one that needs 2, one that needs 1: from the greatest need down.
        steps = (("set", 0),) + S[1] + (("in", 0), ("in", 1), ("+", 8, 9))
        steps = tuple((step[0],) + tuple(k + 1 for k in step[1:]) if 0 < at < 8 and step[0] in "+*" else step
                      for at, step in enumerate(steps))
        row = (4, steps, (0, 7, 10, 7))
        self.assertEqual([row_error(row), is_wood(row), self.check(row)], [None, True, 3])
        equal = (0, (("set", 1),) * 8, (3, 1, 2, 0, 7, 6, 5, 4))
        self.assertEqual([self.check(equal), orders_counted(equal), best_counted(equal)], [8, 40320, 40320])

    def test_just_as_many_needed_steps_as_may_be(self):
        row = (1, (("in", 0),) + tuple(("+", k, 0) for k in range(11)), (11,))
        self.assertEqual([len(needed(row)), is_wood(row), self.check(row), orders_counted(row), best_counted(row)],
                         [12, False, 2, 1, 1])
        wide = (2, (("in", 0), ("in", 1), ("set", 3), ("set", 4)) + tuple(("*", k % 4, (k + 1) % 4) for k in range(8)),
                tuple(range(4, 12)))
        # The last product holds the seven others, and both numbers that it needs.
        self.assertEqual([len(needed(wide)), is_wood(wide), self.check(wide)], [12, False, 9])
        self.assertEqual([orders_counted(wide), best_counted(wide)], [slow_count(wide, 12), slow_count(wide, 9)])
        self.assertEqual([slow_count(wide, 8), slow_count(S, 7)], [0, 80])

    def test_one_more(self):
        row = (1, (("in", 0),) + tuple(("+", k, 0) for k in range(12)), (12,))
        self.assertEqual(len(needed(row)), 13)
        for work in (least_load, best_order, orders_counted, best_counted):
            with self.assertRaises(TooGreat) as caught:
                work(row)
            self.assertEqual(caught.exception.limit, 12)
        with_more_steps = (1, row[1], (11,))
        self.assertEqual(least_load(with_more_steps), 2)

    def test_counts_of_greater_woods(self):
        line = (0, (("set", 1),) + tuple(("neg", k) for k in range(12)), (12,))
        self.assertEqual([least_load(line), is_wood(line)], [1, True])
        for work in (orders_counted, best_counted):
            with self.assertRaises(TooGreat) as caught:
                work(line)
            self.assertEqual(caught.exception.limit, 12)
        shorter = (0, line[1], (11,))
        self.assertEqual([orders_counted(shorter), best_counted(shorter)], [1, 1])

    def test_random_rows_of_any_size(self):
        for seed in range(60):
            row = random_row(seed, seed % 9, 60, 1 + seed % 8)
            if len(needed(row)) <= 12 or is_wood(row):
                self.check(row)
            else:
                with self.assertRaises(TooGreat):
                    least_load(row)


class AllTest(unittest.TestCase):

    def test_nothing_that_is_passed_is_changed(self):
        value = list(O)
        is_order(S, value)
        are_slots(S, O, value)
        self.assertEqual(value, list(O))
        before = repr((S, X))
        for row in (S, X):
            [work(row) for work in (is_wood, least_load, best_order, orders_counted, best_counted)]
        self.assertEqual(repr((S, X)), before)

    def test_arguments_by_name(self):
        self.assertIs(is_order(value=O, row=S), True)
        self.assertEqual([held(value=O, row=S)[0], load(value=O, row=S), slots(value=O, row=S)[0]], [1, 3, 0])
        self.assertIs(are_slots(value=slots(S, O), order=O, row=S), True)
        self.assertEqual([is_wood(row=X), least_load(row=X), best_order(row=X), orders_counted(row=X),
                          best_counted(row=X)], [False, 2, (0, 2, 3), 1, 1])


if __name__ == "__main__":
    unittest.main()
