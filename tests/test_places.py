import random
import unittest
from itertools import product

from helper import ODD, TAKEN_AWAY, bent, lists_of, random_point
from rowsback.clean import clean_tape, is_clean
from rowsback.errors import NotRound, NotStraight, TooLong, TooWide
from rowsback.places import in_place, in_place_holds
from rowsback.reach import determinant
from rowsback.rows import told
from rowsback.sames import polys
from rowsback.straight import row_of
from rowsback.tapes import (moved, same_moved, sign, tape_error, tape_polys, tape_row, taken_back, unlike_filling)

SHEAR = (2, (("in", 0), ("in", 1), ("+", 0, 1)), (2, 1))
TWICE = (1, (("in", 0), ("+", 0, 0)), (1,))
SQUARE = (1, (("in", 0), ("*", 0, 0)), (1,))


def plain(*rows, column=None):
    return row_of(len(rows[0]), rows, column or (0,) * len(rows))


def unimodular(seed, many, biggest, rounds=60):
    """Return a table with the determinant 1 or -1, and no numbers above 10 ** 20."""
    rng = random.Random(seed)
    table = [[int(place == index) for place in range(many)] for index in range(many)]
    rng.shuffle(table)
    for _ in range(rounds if many > 1 else 0):
        one, other = rng.sample(range(many), 2)
        by = rng.randint(-biggest, biggest)
        longer = [here + by * there for here, there in zip(table[one], table[other])]
        if max(map(abs, longer)) <= 10 ** 20:
            table[one] = longer
    return tuple(map(tuple, table))


LONG = row_of(8, unimodular(5, 8, 2, 2000), (10 ** 20,) * 8)


class InPlaceTest(unittest.TestCase):

    def check(self, row):
        found = in_place(row)
        self.assertIs(in_place_holds(row, found), True)
        self.assertEqual([type(found), len(found)], [tuple, 2])
        number = determinant(row)
        if number not in (1, -1):
            self.assertEqual(found, ("barred", number))
            return found
        word, (places, moves) = found
        self.assertEqual([word, places], ["moves", row[0]])
        self.assertEqual([move for move in moves if move[0] not in ("gain", "swap", "turn", "more")], [])
        if len(moves) <= 600:
            self.assertIsNone(tape_error((places, moves)))
        for seed in range(3):
            filling = random_point(seed, places, 10 ** 20)
            self.assertEqual(moved((places, moves), filling), told(row, filling))
        self.assertEqual(sign((places, moves)), number)
        self.assertEqual(in_place(row), found)
        return found

    def test_examples(self):
        self.assertEqual([in_place(TWICE), in_place(SHEAR)[0]], [("barred", 2), "moves"])
        self.assertIs(in_place_holds(SHEAR, ("moves", (2, (("gain", 0, 1, 1),)))), True)

    def test_small_tables(self):
        words = {"moves": 0, "barred": 0}
        for table in product(product((-1, 0, 1, 2), repeat=2), repeat=2):
            words[self.check(plain(*table, column=(3, -4)))[0]] += 1
        self.assertGreater(min(words.values()), 50)

    def test_one_input(self):
        self.assertEqual(self.check(plain((1,)))[1], (1, ()))
        self.assertEqual([self.check(plain((-1,)))[0], self.check(plain((-1,), column=(7,)))[0]], ["moves"] * 2)
        self.assertEqual([self.check(plain((0,), column=(7,))), self.check(plain((3,)))], [("barred", 0), ("barred", 3)])
        self.assertEqual(self.check(plain((-2,))), ("barred", -2))

    def test_inputs_in_other_places(self):
        self.check((3, tuple(("in", k) for k in range(3)), (1, 2, 0)))
        self.check((8, tuple(("in", k) for k in range(8)) + (("neg", 3),), (7, 8, 0, 1, 6, 5, 4, 2)))
        self.assertEqual(self.check((2, (("in", 0), ("in", 1)), (0, 0))), ("barred", 0))

    def test_rows_that_are_not_plain(self):
        row = (2, (("in", 0), ("in", 1), ("*", 0, 0), ("+", 2, 1), ("-", 3, 2), ("+", 4, 0)), (5, 1))
        self.assertEqual(self.check(row)[0], "moves")

    def test_random_tables(self):
        for seed in range(60):
            many = 1 + seed % 6
            row = row_of(many, unimodular(seed, many, (1, 4, 10 ** 6)[seed % 3]), random_point(seed, many, 10 ** 20))
            self.assertEqual(self.check(row)[0], "moves")

    def test_more_moves_than_tapes_have(self):
        _, (places, moves) = self.check(LONG)
        self.assertGreater(len(moves), 600)
        self.assertGreater(max(abs(move[-1]) for move in moves if move[0] in ("gain", "more")), 10 ** 20)
        self.assertEqual(tape_error((places, moves)), (None, "moves"))


class LongTapesTest(unittest.TestCase):
    """What the functions of tapes tell of tapes with more moves, and greater integers, than tapes have."""

    def setUp(self):
        self.tape = in_place(LONG)[1]

    def test_moved_and_taken_back(self):
        back = taken_back(self.tape)
        self.assertEqual(len(back[1]), len(self.tape[1]))
        for seed in range(3):
            filling = random_point(seed, 8, 10 ** 30)
            self.assertEqual(moved(back, moved(self.tape, filling)), filling)
            self.assertEqual(moved(self.tape, filling), told(LONG, filling))

    def test_sign(self):
        self.assertEqual(sign(self.tape), determinant(LONG))

    def test_polys(self):
        self.assertEqual(tape_polys(self.tape), polys(LONG))

    def test_same_moved(self):
        longer = (8, self.tape[1] + (("more", 3, 10 ** 50),))
        self.assertIs(same_moved(self.tape, self.tape), True)
        self.assertIs(same_moved(self.tape, longer), False)
        self.assertIsNone(unlike_filling(self.tape, self.tape))
        filling = unlike_filling(longer, self.tape)
        self.assertNotEqual(moved(longer, filling), moved(self.tape, filling))
        undone = (8, longer[1] + (("more", 3, -10 ** 50),))
        self.assertIs(same_moved(undone, self.tape), True)

    def test_tape_row(self):
        with self.assertRaises(TooLong):
            tape_row(self.tape)
        with self.assertRaises(TooLong):
            tape_row((2, (("gain", 0, 1, 10 ** 20 + 1),)))
        short = in_place(SHEAR)[1]
        self.assertEqual(polys(tape_row(short)), polys(SHEAR))

    def test_clean_tapes(self):
        row = (8, tuple(("in", k) for k in range(8)) + tuple(("-", k, k + 1) for k in range(52)), tuple(range(52, 60)))
        tape = clean_tape(row)
        self.assertIs(is_clean(row, tape), True)
        filling = random_point(1, 8, 10 ** 20) + (0,) * (tape[0] - 16) + random_point(2, 8, 10 ** 20)
        come = moved(tape, filling)
        self.assertEqual(come[:-8], filling[:-8])
        self.assertEqual(come[-8:], tuple(map(int.__add__, filling[-8:], told(row, filling[:8]))))
        self.assertEqual(moved(taken_back(tape), come), filling)
        self.assertEqual(sign(tape), 1)
        great = (1, (("in", 0), ("set", 10 ** 20), ("*", 0, 1)), (2,))
        some = clean_tape(great)
        self.assertIs(same_moved(some, some), True)
        self.assertEqual(tape_polys(some)[-1], tape_polys((some[0], some[1]))[-1])


class InPlaceHoldsTest(unittest.TestCase):

    def test_barred(self):
        self.assertIs(in_place_holds(TWICE, ("barred", 2)), True)
        for value in (("barred", 1), ("barred", -2), ("barred", 2, 2), ("barred",), ["barred", 2], ("barred", "2"),
                      ("barred", (2,)), ("barred", None), ("Barred", 2), ("moves", 2), ("moves", (1, ())), 2, None):
            self.assertIs(in_place_holds(TWICE, value), False)
        nought = plain((0,))
        self.assertIs(in_place_holds(nought, ("barred", 0)), True)
        self.assertIs(in_place_holds(nought, ("barred", False)), False)
        for row, number in ((SHEAR, 1), (plain((-1,)), -1), (plain((1,)), True)):
            self.assertIs(in_place_holds(row, ("barred", number)), False)

    def test_moves(self):
        right = (("gain", 0, 1, 1),)
        self.assertIs(in_place_holds(SHEAR, ("moves", (2, right))), True)
        self.assertIs(in_place_holds(SHEAR, ("moves", (2, right + (("turn", 0), ("turn", 0))))), True)
        self.assertIs(in_place_holds(SHEAR, ("moves", (2, (("gain", 0, 1, 5), ("gain", 0, 1, -4))))), True)
        self.assertIs(in_place_holds(SHEAR, ("moves", (2, (("swap", 0, 1), ("gain", 1, 0, 1), ("swap", 1, 0))))), True)
        for moves in ((), right + right, (("gain", 1, 0, 1),), (("gain", 0, 1, 2),), (("gain", 0, 1, True),),
                      (("gain", 0, 1),), (("gain", 0, 2, 1),), list(right), (list(right[0]),), right + (None,),
                      right + (("more", 0, 1),), right + (("turn", 1),), right + (("swap", 0, 1),), (("jump", 0, 1, 1),)):
            self.assertIs(in_place_holds(SHEAR, ("moves", (2, moves))), False, moves)

    def test_add_is_none_of_its_moves(self):
        right = (("gain", 0, 1, 1),)
        for add in (("add", 0, 1, 1, 0), ("add", 1, 0, 0, 0), ("add", 0, 1, 1, 3)):
            back = add[:-1] + (-add[-1],)
            self.assertIs(in_place_holds(SHEAR, ("moves", (2, (add, back) + right))), False)

    def test_other_numbers_of_places(self):
        for places in (0, 1, 3, 80, True, "2", None, (2,)):
            self.assertIs(in_place_holds(SHEAR, ("moves", (places, (("gain", 0, 1, 1),)))), False)
        one = plain((1,))
        self.assertIs(in_place_holds(one, ("moves", (1, ()))), True)
        self.assertIs(in_place_holds(one, ("moves", (True, ()))), False)

    def test_any_number_of_moves_and_any_numbers(self):
        many = (("gain", 0, 1, 10 ** 200), ("more", 1, 10 ** 60), ("more", 1, -10 ** 60), ("gain", 0, 1, -10 ** 200)) * 300
        self.assertIs(in_place_holds(SHEAR, ("moves", (2, many + (("gain", 0, 1, 1),)))), True)
        self.assertIs(in_place_holds(SHEAR, ("moves", (2, many))), False)

    def test_columns(self):
        row = plain((1, 0), (0, 1), column=(10 ** 20, -3))
        self.assertIs(in_place_holds(row, ("moves", (2, (("more", 0, 10 ** 20), ("more", 1, -3))))), True)
        self.assertIs(in_place_holds(row, ("moves", (2, (("more", 0, 10 ** 20),)))), False)

    def test_odd_values(self):
        for value in ODD:
            for row in (SHEAR, TWICE):
                self.assertIs(in_place_holds(row, value), False)
                self.assertIs(in_place_holds(row, ("moves", value)), False)
                self.assertIs(in_place_holds(row, (value, value)), False)
                self.assertIs(in_place_holds(row, ("barred", value)), row is TWICE and value == 2)

    def test_bent_values(self):
        row = plain((2, 1), (1, 1), column=(0, 5))
        found = in_place(row)
        told_right = 0
        for value in list(bent(found)) + [lists_of(found)]:
            holds = in_place_holds(row, value)
            self.assertIs(type(holds), bool)
            if holds:
                told_right += 1
                self.assertEqual(moved(value[1], (3, 10)), told(row, (3, 10)))
        self.assertLess(told_right, 30)


class ErrorsTest(unittest.TestCase):

    CALLS = (in_place, lambda row: in_place_holds(row, None), lambda row: in_place_holds(row, ("barred", 2)))

    def refused(self, error, row):
        for call in self.CALLS:
            with self.assertRaises(error):
                call(row)

    def test_in_their_order(self):
        self.refused(TooWide, TAKEN_AWAY)
        self.refused(TooWide, (2, TAKEN_AWAY[1], (3, TAKEN_AWAY[2][0])))
        self.refused(NotStraight, SQUARE)
        self.refused(NotStraight, (1, SQUARE[1], (0, 1)))
        self.refused(NotRound, (1, SQUARE[1], (0, 0)))
        self.refused(NotRound, (2, SHEAR[1], (0,)))
        self.refused(NotRound, (0, (("set", 1),), (0,)))

    def test_nothing_that_is_passed_is_changed(self):
        value = ["moves", [2, [["gain", 0, 1, 1]]]]
        in_place_holds(SHEAR, value)
        self.assertEqual(value, ["moves", [2, [["gain", 0, 1, 1]]]])
        self.assertEqual(in_place(SHEAR), in_place(SHEAR))

    def test_arguments_by_name(self):
        self.assertIs(in_place_holds(value=in_place(row=SHEAR), row=SHEAR), True)


if __name__ == "__main__":
    unittest.main()
