import unittest

from helper import BEYOND, JUST, NOT_NEEDED, ODD, TAKEN_AWAY, bent, lists_of, random_row
from rowsback.errors import TooWide, Unfit
from rowsback.fitting import fed
from rowsback.patterns import fed_pattern, pattern_error, pattern_of, turned_pattern
from rowsback.rates import hangs
from rowsback.sames import polys

Q = (3, (("in", 0), ("in", 1), ("in", 2), ("*", 0, 1), ("+", 1, 2)), (3, 4, 2))
P = (3, ((0, 1), (1, 2), (2,)))
FULL = (8, (tuple(range(8)),) * 8)


def slow_error(value):
    if type(value) is not tuple or len(value) != 2:
        return (None, "pattern")
    if type(value[0]) is not int or value[0] not in range(9):
        return (None, "inputs")
    if type(value[1]) is not tuple or len(value[1]) not in range(9):
        return (None, "ends")
    for index, lot in enumerate(value[1]):
        if type(lot) is not tuple or any(type(number) is not int for number in lot):
            return (index, "lot")
        if any(number < 0 or number >= value[0] for number in lot) or list(lot) != sorted(set(lot)):
            return (index, "lot")
    return None


def marks(pattern):
    return {(end, number) for end, lot in enumerate(pattern[1]) for number in lot}


class PatternErrorTest(unittest.TestCase):

    def test_examples(self):
        self.assertIsNone(pattern_error(P))
        self.assertEqual(pattern_error((2, ((0,), (1, 0)))), (1, "lot"))

    def test_bounds(self):
        for pattern in (FULL, (0, ()), (8, ()), (0, ((),) * 8), (1, ((0,),) * 8), (8, ((7,), (0, 7), ()))):
            self.assertIsNone(pattern_error(pattern))
        self.assertEqual(pattern_error((9, ())), (None, "inputs"))
        self.assertEqual(pattern_error((-1, ())), (None, "inputs"))
        self.assertEqual(pattern_error((8, FULL[1] + ((),))), (None, "ends"))
        self.assertEqual(pattern_error((0, ((),) * 9)), (None, "ends"))
        self.assertEqual(pattern_error((8, ((0,), (8,)))), (1, "lot"))
        self.assertEqual(pattern_error((0, ((0,),))), (0, "lot"))

    def test_lots(self):
        for lot in ((1, 0), (0, 0), (-1,), (True,), (0, True), (3,), [0], "0", None, 0, (0, (1,)), ("0",), {0: 1}):
            self.assertEqual(pattern_error((3, ((0, 1), lot, None))), (1, "lot"), lot)

    def test_the_first_one_that_applies(self):
        for value in ODD:
            if value != P:
                self.assertEqual(pattern_error((value,)), (None, "pattern"))
                self.assertEqual(pattern_error((value, None)), slow_error((value, None)))
                self.assertEqual(pattern_error((3, value)), slow_error((3, value)))
        self.assertEqual(pattern_error((9, None)), (None, "inputs"))
        self.assertEqual(pattern_error((3, [None])), (None, "ends"))

    def test_bent_values(self):
        right = 0
        for value in list(bent(P)) + list(bent((8, ((0, 7), (), (3,))))) + [lists_of(P)]:
            self.assertEqual(pattern_error(value), slow_error(value))
            right += pattern_error(value) is None
        self.assertGreater(right, 20)


class PatternOfTest(unittest.TestCase):

    def test_examples(self):
        self.assertEqual(pattern_of(Q), P)

    def test_what_falls_away(self):
        row = (2, (("in", 0), ("in", 1), ("-", 0, 0), ("*", 2, 1), ("set", 0), ("*", 4, 0), ("+", 0, 1), ("-", 6, 0)),
               (2, 3, 5, 7, 6, 6))
        self.assertEqual(pattern_of(row), (2, ((), (), (), (1,), (0, 1), (0, 1))))

    def test_rows_without_inputs(self):
        self.assertEqual(pattern_of((0, (("set", 1),), (0, 0))), (0, ((), ())))

    def test_random_rows(self):
        for seed in range(50):
            row = random_row(seed, seed % 9, 25, 5, most=4)
            found = pattern_of(row)
            self.assertIsNone(pattern_error(found))
            self.assertEqual(found, (row[0], hangs(row)))
            for end, poly in enumerate(polys(row)):
                named = {index for powers, _ in poly for index, power in enumerate(powers) if power}
                self.assertEqual(found[1][end], tuple(sorted(named)))

    def test_too_wide(self):
        for row in (BEYOND, TAKEN_AWAY):
            with self.assertRaises(TooWide):
                pattern_of(row)
        self.assertEqual(pattern_of(JUST), (2, ((0, 1),)))
        self.assertEqual(pattern_of(NOT_NEEDED)[1][1], (0, 1))


class TurnedPatternTest(unittest.TestCase):

    def test_examples(self):
        self.assertEqual(turned_pattern(P), (3, ((0,), (0, 1), (1, 2))))

    def test_edges(self):
        self.assertEqual(turned_pattern((0, ())), (0, ()))
        self.assertEqual(turned_pattern((0, ((), ()))), (2, ()))
        self.assertEqual(turned_pattern((2, ())), (0, ((), ())))
        self.assertEqual(turned_pattern((3, ((2,),))), (1, ((), (), (0,))))
        self.assertEqual(turned_pattern(FULL), FULL)

    def test_random_patterns(self):
        for seed in range(50):
            pattern = pattern_of(random_row(seed, seed % 9, 25, 1 + seed % 8, most=4))
            turned = turned_pattern(pattern)
            self.assertIsNone(pattern_error(turned))
            self.assertEqual([turned[0], len(turned[1])], [len(pattern[1]), pattern[0]])
            self.assertEqual(marks(turned), {(number, end) for end, number in marks(pattern)})
            self.assertEqual(turned_pattern(turned), pattern)


class FedPatternTest(unittest.TestCase):

    def test_examples(self):
        self.assertEqual(fed_pattern(P, (3, ((0, 2), ()))), (3, ((0, 1, 2), ())))

    def test_edges(self):
        self.assertEqual(fed_pattern((5, ()), (0, ((), ()))), (5, ((), ())))
        self.assertEqual(fed_pattern(P, (3, ())), (3, ()))
        self.assertEqual(fed_pattern((0, ((),)), (1, ((0,), ()))), (0, ((), ())))
        self.assertEqual(fed_pattern(FULL, FULL), FULL)
        self.assertEqual(fed_pattern(P, (3, ((1,), (2,), (1, 2), (0, 1)))), (3, ((1, 2), (2,), (1, 2), (0, 1, 2))))

    def test_unfit(self):
        for other in ((2, ()), (4, ((0,),)), (0, ())):
            with self.assertRaises(Unfit):
                fed_pattern(P, other)

    def test_fed_rows_have_no_other_marks(self):
        for seed in range(50):
            many = 1 + seed % 5
            one, other = random_row(seed, 4, 12, many, most=3), random_row(seed + 90, many, 12, 4, most=3)
            both = fed_pattern(pattern_of(one), pattern_of(other))
            self.assertIsNone(pattern_error(both))
            self.assertEqual(marks(pattern_of(fed(one, other))) - marks(both), set())
            wanted = {(end, k) for end, mid in marks(pattern_of(other)) for at, k in marks(pattern_of(one)) if at == mid}
            self.assertEqual(marks(both), wanted)


class AllTest(unittest.TestCase):

    def test_nothing_that_is_passed_is_changed_and_equal_calls_tell_the_same(self):
        value = lists_of(P)
        pattern_error(value)
        self.assertEqual(value, lists_of(P))
        before = repr((P, Q))
        for _ in range(2):
            self.assertEqual([pattern_of(Q), turned_pattern(turned_pattern(P)), fed_pattern(P, P)],
                             [P, P, (3, ((0, 1, 2), (1, 2), (2,)))])
        self.assertEqual(repr((P, Q)), before)

    def test_arguments_by_name(self):
        self.assertIsNone(pattern_error(value=P))
        self.assertEqual(pattern_of(row=Q), P)
        self.assertEqual(turned_pattern(pattern=(0, ())), (0, ()))
        self.assertEqual(fed_pattern(other=(3, ()), one=P), (3, ()))


if __name__ == "__main__":
    unittest.main()
