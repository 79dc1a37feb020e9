import random
import unittest
from itertools import product

from helper import TAKEN_AWAY, random_point, random_row
from rowsback.errors import NotRound, NotStraight, TooWide, Unfit
from rowsback.fitting import fed
from rowsback.moments import run_rounds
from rowsback.reach import determinant, undone
from rowsback.rows import told
from rowsback.rounds import after, after_rests, alike_from, comes_back, gathered, run_after, settles
from rowsback.straight import is_straight, row_of, table_of

F = (2, (("in", 0), ("in", 1), ("+", 0, 1)), (1, 2))
W, Z = (2, (("in", 0), ("in", 1), ("neg", 0)), (1, 2)), (2, (("in", 0), ("set", 0)), (1, 0))
MORE = (1, (("in", 0), ("set", 1), ("+", 0, 1)), (2,))
SQUARE = (1, (("in", 0), ("*", 0, 0)), (1,))
# x, by way of a square that falls away.
ODDLY = (1, (("in", 0), ("*", 0, 0), ("-", 1, 1), ("+", 2, 0)), (3,))


def plain(*rows, column=None):
    return row_of(len(rows), rows, column or (0,) * len(rows))


def units(many):
    return tuple(tuple(int(place == index) for place in range(many)) for index in range(many))


def maps_of(row, times):
    """Return the maps of 0, 1, .., times rounds."""
    table, column = table_of(row)
    many = len(table)
    found = [(units(many), (0,) * many)]
    for _ in range(times):
        ahead, more = found[-1]
        found.append((
            tuple(tuple(sum(some[k] * ahead[k][index] for k in range(many)) for index in range(many)) for some in table),
            tuple(sum(a * b for a, b in zip(some, more)) + c for some, c in zip(table, column)),
        ))
    return found


def slow_settles(maps):
    for number in range(1, len(maps)):
        if maps[number] in maps[:number]:
            start = maps.index(maps[number])
            return (start, number - start)
    return None


def ring(many, sign=1):
    """Return the table of a ring of so many inputs; the last one turned with the sign -1."""
    return tuple(tuple((sign if index == many - 1 else 1) * int(place == (index + 1) % many) for place in range(many))
                 for index in range(many))


def companion(*factors):
    """Return the table whose powers fall back by these factors: the last row tells that of the power many."""
    many = len(factors)
    return units(many)[1:] + (tuple(factors),)


def joined(*tables):
    """Return the table that has the tables side by side."""
    many = sum(len(table) for table in tables)
    found, ahead = [], 0
    for table in tables:
        found += [(0,) * ahead + tuple(some) + (0,) * (many - ahead - len(table)) for some in table]
        ahead += len(table)
    return tuple(found)


def mixed(table, seed, rounds=12):
    """Return a table that does the same with other inputs, sums of the first ones."""
    rng = random.Random(seed)
    held = [list(some) for some in table]
    for _ in range(rounds if len(held) > 1 else 0):
        one, other = rng.sample(range(len(held)), 2)
        by = rng.choice((-1, 1))
        for some in held:
            some[one] += by * some[other]
        held[other] = [a - by * b for a, b in zip(held[other], held[one])]
    return tuple(map(tuple, held))


FIFTH, SEVENTH, NINTH = companion(-1, -1, -1, -1), companion(-1, -1, -1, -1, -1, -1), companion(-1, 0, 0, -1, 0, 0)
THIRD, FOURTH = companion(-1, -1), companion(-1, 0)


class AfterTest(unittest.TestCase):

    def test_examples(self):
        self.assertEqual([after(F, 0), after(F, 5), gathered(F, 3), run_after(F, (0, 1), 10), after_rests(F, 10 ** 18, 10)[1],
                          after_rests(F, 60, 10)],
                         [(((1, 0), (0, 1)), (0, 0)), (((3, 5), (5, 8)), (0, 0)), (((2, 4), (4, 6)), (0, 0)), (55, 89), (0, 0),
                          (((1, 0), (0, 1)), (0, 0))])

    def rows(self):
        for seed in range(40):
            many = 1 + seed % 4
            table = tuple(random_point(seed + 50 * index, many, (1, 2, 9, 10 ** 20)[seed % 4]) for index in range(many))
            yield seed, plain(*table, column=random_point(seed, many, (0, 5, 10 ** 20)[seed % 3]))

    def test_all_beside_one_round_after_another(self):
        for seed, row in self.rows():
            maps = maps_of(row, 20)
            point = random_point(seed, row[0], 10 ** 20)
            here, total, total_column = point, [[0] * row[0] for _ in range(row[0])], [0] * row[0]
            for times in range(21):
                self.assertEqual([after(row, times), run_after(row, point, times)], [maps[times], here])
                self.assertEqual(gathered(row, times), (tuple(map(tuple, total)), tuple(total_column)))
                for modulus in (1, 2, 10, 997, 10 ** 20):
                    self.assertEqual(after_rests(row, times, modulus), (
                        tuple(tuple(k % modulus for k in some) for some in maps[times][0]),
                        tuple(k % modulus for k in maps[times][1])))
                here = told(row, here)
                if times < 20:
                    total = [[a + b for a, b in zip(some, more)] for some, more in zip(total, maps[times + 1][0])]
                    total_column = [a + b for a, b in zip(total_column, maps[times + 1][1])]

    def test_no_rounds(self):
        for many in (1, 2, 8):
            row = plain(*[random_point(seed, many, 9) for seed in range(many)], column=(7,) * many)
            self.assertEqual([after(row, 0), gathered(row, 0)], [(units(many), (0,) * many), (((0,) * many,) * many, (0,) * many)])
            self.assertEqual([run_after(row, (5,) * many, 0), after_rests(row, 0, 1)], [(5,) * many, (((0,) * many,) * many, (0,) * many)])
            self.assertEqual(after_rests(row, 0, 2), (units(many), (0,) * many))

    def test_as_many_rounds_as_may_be(self):
        self.assertEqual(run_after(F, (0, 1), 100), (354224848179261915075, 573147844013817084101))
        self.assertEqual(after(F, 100)[0][0], (218922995834555169026, 354224848179261915075))
        self.assertEqual(after(MORE, 100), (((1,),), (100,)))
        self.assertEqual(gathered(MORE, 100), (((100,),), (5050,)))
        self.assertEqual(after(plain((10 ** 20,), column=(1,)), 100)[0], ((10 ** 2000,),))

    def test_rests_of_many_rounds(self):
        for times in (10 ** 18, 10 ** 18 - 1, 999999999999999989, 2 ** 59, 2 ** 59 - 1):
            found = after_rests(F, times, 10 ** 20)
            back, shift = (((-1, 1), (1, 0)), (0, 0))
            ahead = after_rests(F, times - 1, 10 ** 20)
            self.assertEqual(tuple(tuple(sum(b * found[0][k][index] for k, b in enumerate(some)) % 10 ** 20 for index in range(2))
                                   for some in back), ahead[0])
            self.assertEqual(after_rests(MORE, times, 10 ** 20), (((1,),), (times,)))
            self.assertEqual(after_rests(plain((3,)), times, 1000), (((pow(3, times, 1000),),), (0,)))
        self.assertEqual(after_rests(F, 10 ** 18, 1), (((0, 0), (0, 0)), (0, 0)))

    def test_rests_of_numbers_below_0(self):
        row = plain((-1, -3), (0, -7), column=(-5, -10 ** 20))
        for times in range(4):
            for modulus in (1, 2, 3, 10, 10 ** 20):
                table, column = after_rests(row, times, modulus)
                self.assertTrue(all(0 <= k < modulus for some in table + (column,) for k in some))
        self.assertEqual(after_rests(row, 1, 10 ** 20), (((10 ** 20 - 1, 10 ** 20 - 3), (0, 10 ** 20 - 7)), (10 ** 20 - 5, 0)))

    def test_rows_that_are_not_plain(self):
        self.assertEqual([after(ODDLY, 9), run_after(ODDLY, (4,), 3), comes_back(ODDLY)], [(((1,),), (0,)), (4,), 1])
        for seed in range(60):
            many = 1 + seed % 3
            row = random_row(seed, many, 12, many, most=2)
            if is_straight(row):
                self.assertEqual(after(row, 5), maps_of(row, 5)[5])

    def test_great_numbers(self):
        steps = [("in", 0), ("in", 1), ("set", 10 ** 20)]
        for _ in range(5):
            steps.append(("*", len(steps) - 1, len(steps) - 1))
        steps += [("*", 7, 0), ("*", 7, 1), ("+", 8, 1), ("-", 9, 0)]
        row = (2, tuple(steps), (10, 11))
        big = 10 ** 640
        self.assertEqual(table_of(row)[0], ((big, 1), (-1, big)))
        self.assertEqual(after(row, 2)[0], ((big * big - 1, 2 * big), (-2 * big, big * big - 1)))
        self.assertEqual(after(row, 40), maps_of(row, 40)[40])
        self.assertIsNone(settles(row))

    def test_beside_fed_rows_and_rounds_of_moments(self):
        for seed in range(30):
            many = 1 + seed % 3
            row = plain(*[random_point(seed + 9 * index, many, 4) for index in range(many)], column=random_point(seed, many, 4))
            point = random_point(seed, many, 99)
            self.assertEqual([table_of(fed(row, row)), table_of(fed(fed(row, row), row))], [after(row, 2), after(row, 3)])
            for times in (0, 1, 2, 7):
                self.assertEqual(run_after(row, point, times), run_rounds(row, point, times))
                whole = row_of(many, *after(row, times))
                self.assertEqual([told(whole, point), determinant(whole)], [run_after(row, point, times), determinant(row) ** times])

    def test_beside_what_undoes_a_row(self):
        for seed in range(10):
            row = plain(*mixed(joined(THIRD, ((1, 1), (0, 1))), seed), column=random_point(seed, 4, 9))
            back, shift = undone(row)
            other = row_of(4, back, shift)
            for times in range(6):
                again = table_of(fed(row_of(4, *after(row, times)), row_of(4, *after(other, times))))
                self.assertEqual(again, after(row, 0))
            self.assertEqual(comes_back(row), comes_back(other))


class SettlesTest(unittest.TestCase):

    def check(self, row, times=75):
        """Look by all maps of some rounds; return when the first one comes again."""
        maps = maps_of(row, times)
        found = settles(row)
        self.assertEqual(found, slow_settles(maps))
        self.assertEqual(settles(row), found)
        back = [number for number in range(1, times + 1) if maps[number] == maps[0]]
        self.assertEqual(comes_back(row), min(back, default=None))
        if found is not None:
            self.assertTrue(found[0] <= row[0] and 1 <= found[1] <= 60)
            self.assertIs(type(found), tuple)
        return found

    def test_examples(self):
        self.assertEqual([comes_back(W), settles(W), comes_back(F), settles(F), settles(Z), comes_back(Z), settles(MORE)],
                         [4, (0, 4), None, None, (2, 1), None, None])

    def test_rings(self):
        for many in range(1, 9):
            self.assertEqual(self.check(plain(*ring(many))), (0, many))
            self.assertEqual(self.check(plain(*ring(many, -1))), (0, 2 * many))
        self.assertEqual([self.check(plain(*table)) for table in (THIRD, FOURTH, FIFTH, SEVENTH, NINTH)],
                         [(0, number) for number in (3, 4, 5, 7, 9)])

    def test_behind_one_round_and_sixty(self):
        for many in (1, 5, 8):
            self.assertEqual(self.check(plain(*units(many))), (0, 1))
        sixty = joined(FIFTH, THIRD, FOURTH)
        self.assertEqual([self.check(plain(*sixty)), comes_back(plain(*sixty))], [(0, 60), 60])
        for seed in range(5):
            self.assertEqual(self.check(plain(*mixed(sixty, seed), column=(0,) * 8)), (0, 60))
        turned = tuple(tuple(-number for number in some) for some in joined(FIFTH, THIRD, ((1, 0), (0, 1))))
        self.assertEqual(self.check(plain(*turned)), (0, 30))
        self.assertEqual([self.check(plain(*companion(-1, -1, -2, -1))), self.check(plain(*joined(SEVENTH, FOURTH)))],
                         [(0, 12), (0, 28)])
        self.assertEqual(self.check(plain(*joined(NINTH, FOURTH))), (0, 36))
        self.assertEqual(self.check(plain(*joined(SEVENTH, companion(-1, 1)))), (0, 42))
        self.assertEqual(self.check(plain(*joined(companion(-1, 0, 0, 0), FIFTH))), (0, 40))

    def test_never(self):
        for row in (F, MORE, plain((2,)), plain((-2,)), plain((1, 1), (0, 1)), plain((-1, 1), (0, -1)), plain((1,), column=(-3,)),
                    plain((1, 0), (0, 1), column=(0, 1)), plain((3, 0), (0, 0)), plain((10 ** 20, 0), (0, -10 ** 20)),
                    plain(*companion(-1, 3)), plain(*companion(-1, 1, 1, 1))):
            self.assertEqual([self.check(row), comes_back(row)], [None, None])
        twice = joined(THIRD, THIRD)
        twice = tuple(some[:2] + (int(index == 0), int(index == 1)) if index < 2 else some for index, some in enumerate(twice))
        self.assertIsNone(self.check(plain(*twice)))
        self.assertIsNone(self.check(plain(*joined(FIFTH, ((1, 1), (0, 1)), ((0,),)))))

    def test_starts_above_0(self):
        self.assertEqual([self.check(plain((0,))), self.check(plain((0,), column=(9,)))], [(1, 1)] * 2)
        for many in range(1, 9):
            lost = units(many)[1:] + ((0,) * many,)
            self.assertEqual(self.check(plain(*lost)), (many, 1))
            self.assertEqual(self.check(plain(*lost, column=tuple(range(5, 5 + many)))), (many, 1))
        self.assertEqual(self.check(plain(*joined(units(3)[1:] + ((0,) * 3,), FIFTH))), (3, 5))
        self.assertEqual(self.check(plain(*mixed(joined(((0, 1), (0, 0)), SEVENTH), 3))), (2, 7))
        self.assertEqual(self.check(plain(*joined(((0,),), ring(7, -1)))), (1, 14))
        self.assertEqual(self.check(plain((1, 1), (0, 0))), (1, 1))

    def test_columns(self):
        self.assertEqual([self.check(plain((-1,), column=(9,))), self.check(plain((1,), column=(9,)))], [(0, 2), None])
        self.assertEqual(self.check(plain(*ring(4), column=(1, -2, 3, -2))), (0, 4))
        self.assertIsNone(self.check(plain(*ring(4), column=(1, -2, 3, -1))))
        self.assertEqual(self.check(plain(*FIFTH, column=(10 ** 20, 7, 0, 1))), (0, 5))
        self.assertEqual(self.check(plain(*joined(ring(2), ((0,),)), column=(4, -4, 10 ** 20))), (1, 2))
        self.assertIsNone(self.check(plain(*joined(ring(2), ((0,),)), column=(4, 4, 0))))

    def test_all_small_tables(self):
        kinds = {}
        for numbers in product((-1, 0, 1, 2), repeat=4):
            for column in ((0, 0), (1, -1), (0, 3)):
                found = self.check(plain(numbers[:2], numbers[2:], column=column), 20)
                kinds[found] = kinds.get(found, 0) + 1
        self.assertEqual(set(kinds) - {None}, {(0, 1), (0, 2), (0, 3), (0, 4), (0, 6), (1, 1), (1, 2), (2, 1)})

    def test_mixed_tables(self):
        for seed in range(40):
            rng = random.Random(seed)
            parts = []
            while sum(map(len, parts)) < 5:
                parts.append(rng.choice((THIRD, FOURTH, FIFTH, ring(2), ring(3, -1), ((0,),), ((0, 1), (0, 0)), ((1,),), ((-1,),))))
            table = joined(*parts)
            if len(table) <= 8:
                self.check(plain(*mixed(table, seed), column=(0,) * len(table)))
                self.check(plain(*mixed(table, seed), column=random_point(seed, len(table), 2)))


class AlikeTest(unittest.TestCase):

    def check(self, row, other):
        """Look by the maps of some rounds; return from which number on both do alike."""
        here, there = maps_of(row, 30), maps_of(other, 30)
        unlike = [number for number in range(31) if here[number] != there[number]]
        found = alike_from(row, other)
        last = max(unlike, default=-1)
        # What is lost is lost behind 8 rounds; what is unlike later on is so again and again.
        self.assertEqual(found, None if last > 8 else last + 1)
        self.assertTrue(found is None or found <= row[0])
        self.assertEqual([alike_from(other, row), alike_from(row, other)], [found, found])
        return found

    def test_examples(self):
        self.assertEqual([alike_from(Z, (2, (("set", 0),), (0, 0))), alike_from(F, F), alike_from(F, W)], [2, 0, None])

    def test_at_once(self):
        for row in (F, W, Z, MORE, ODDLY):
            self.assertEqual(self.check(row, row), 0)
        self.assertEqual(self.check(ODDLY, (1, (("in", 0),), (0,))), 0)

    def test_behind_some_rounds(self):
        for many in range(1, 9):
            lost = units(many)[1:] + ((0,) * many,)
            none = ((0,) * many,) * many
            self.assertEqual(self.check(plain(*lost), plain(*none)), many if many > 1 else 0)
        self.assertEqual(self.check(plain((0, 1, 0), (0, 0, 1), (0, 0, 0)), plain((0, 0, 0), (0, 0, 1), (0, 0, 0))), 3)
        self.assertEqual(self.check(plain((0, 1, 0), (0, 0, 0), (0, 0, 1)), plain((0, 0, 0), (0, 0, 0), (0, 0, 1))), 2)
        self.assertEqual(self.check(plain((0, 1), (0, 0), column=(3, 0)), plain((0, 0), (0, 0), column=(3, 0))), 2)
        self.assertEqual(self.check(plain((0, 5), (0, 0), column=(0, 1)), plain((0, 0), (0, 0), column=(5, 1))), 2)
        self.assertEqual(self.check(plain((0,), column=(3,)), plain((0,), column=(3,))), 0)

    def test_never_though_alike_for_some_numbers(self):
        self.assertIsNone(self.check(plain((0, 1), (1, 0)), plain((1, 0), (0, 1))))
        self.assertIsNone(self.check(plain(*FIFTH), plain(*units(4))))
        self.assertIsNone(self.check(plain((1,), column=(1,)), plain((1,), column=(2,))))
        self.assertIsNone(self.check(plain((0,), column=(1,)), plain((0,), column=(2,))))
        self.assertIsNone(self.check(plain((0, 1), (0, 0), column=(0, 1)), plain((0, 0), (0, 0), column=(0, 1))))
        self.assertIsNone(self.check(plain((2,)), plain((-2,))))

    def test_all_small_tables(self):
        kinds = {}
        tables = list(product((0, 1, -1), repeat=4))
        for numbers in tables:
            for others in tables[::7]:
                found = self.check(plain(numbers[:2], numbers[2:]), plain(others[:2], others[2:]))
                kinds[found] = kinds.get(found, 0) + 1
        self.assertEqual(set(kinds), {None, 0, 2})

    def test_mixed_tables(self):
        found = {}
        for seed in range(60):
            lost = ((0, 1, 0), (0, 0, seed % 2), (0, 0, 0))
            other = ((0, seed % 3, 0), (0, 0, 0), (0, 0, 0))
            rest = (THIRD, FIFTH, ((2,),), ((1, 1), (0, 1)))[seed % 4]
            one, second = mixed(joined(lost, rest), seed), mixed(joined(other, rest), seed)
            number = self.check(plain(*one, column=(0,) * len(one)), plain(*second, column=(0,) * len(one)))
            found[number] = found.get(number, 0) + 1
        self.assertEqual(set(found), {0, 2, 3})

    def test_unfit(self):
        for row, other in ((F, MORE), (MORE, W), (plain(*units(8)), plain(*units(7)))):
            with self.assertRaises(Unfit):
                alike_from(row, other)

    def test_errors_of_the_first_row_ahead_of_those_of_the_second_ahead_of_unfit(self):
        wide = (2, TAKEN_AWAY[1], (TAKEN_AWAY[2][0],))
        high, flat = (1, SQUARE[1], (1, 1)), (2, F[1], (2,))
        broken = ((wide, TooWide), (SQUARE, NotStraight), (high, NotStraight), (flat, NotRound))
        for one, error in broken:
            for other, second in broken:
                with self.assertRaises(error):
                    alike_from(one, other)
            for right in (F, MORE):
                with self.assertRaises(error):
                    alike_from(one, right)
                with self.assertRaises(error):
                    alike_from(right, one)


class AllTest(unittest.TestCase):

    CALLS = (lambda row: after(row, 0), lambda row: gathered(row, 0), lambda row: after_rests(row, 0, 1),
             lambda row: run_after(row, (0,) * row[0], 0), comes_back, settles, lambda row: alike_from(row, F))

    def test_too_wide_ahead_of_not_straight_ahead_of_not_round(self):
        wide, square = TAKEN_AWAY[2][0], 3
        for ends in ((wide,), (square, wide), (wide, square), (square, wide, square)):
            for call in self.CALLS:
                with self.assertRaises(TooWide):
                    call((2, TAKEN_AWAY[1], ends))
        for ends in ((1,), (0, 1), (1, 0), (1, 1, 1)):
            for call in self.CALLS:
                with self.assertRaises(NotStraight):
                    call((1, SQUARE[1], ends))
        for row in ((1, MORE[1], (0, 2)), (2, F[1], (0,)), (0, (("set", 1),), (0,)), (2, F[1], (0, 1, 2))):
            for call in self.CALLS:
                with self.assertRaises(NotRound):
                    call(row)

    def test_nothing_that_is_passed_is_changed_and_equal_calls_tell_the_same(self):
        before = repr((F, W, Z))
        for row in (F, W, Z):
            for call in self.CALLS:
                self.assertEqual(call(row), call(row))
        self.assertEqual(repr((F, W, Z)), before)

    def test_kinds_of_what_is_returned(self):
        for table, column in (after(F, 0), after(F, 7), gathered(F, 0), gathered(F, 7), after_rests(F, 0, 3), after_rests(F, 7, 3)):
            self.assertEqual({type(table), type(column)} | {type(some) for some in table}, {tuple})
        self.assertEqual([type(run_after(F, (0, 1), 0)), type(run_after(F, (0, 1), 1)), type(after(F, 3))], [tuple] * 3)

    def test_arguments_by_name(self):
        self.assertEqual([after(times=0, row=MORE), gathered(times=2, row=MORE), after_rests(modulus=2, times=3, row=MORE)],
                         [(((1,),), (0,)), (((2,),), (3,)), (((1,),), (1,))])
        self.assertEqual([run_after(times=2, point=(5,), row=MORE), comes_back(row=W), settles(row=W), alike_from(other=F, row=F)],
                         [(7,), 4, (0, 4), 0])


if __name__ == "__main__":
    unittest.main()
