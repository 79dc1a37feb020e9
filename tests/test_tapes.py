import random
import unittest

from helper import HUGE, bent, lists_of
from rowsback.bounds import MAX_NUMBER
from rowsback.errors import TooLong, TooWide, Unfit
from rowsback.polys import value_of
from rowsback.rows import long_error, told
from rowsback.tapes import moved, same_moved, sign, taken_back, tape_error, tape_polys, tape_row, unlike_filling

T = (2, (("gain", 0, 1, 3), ("turn", 1), ("more", 0, -2)))
ALL = (4, (("gain", 0, 1, 3), ("add", 1, 2, 3, -2), ("swap", 0, 2), ("turn", 3), ("more", 1, 7), ("add", 0, 1, 1, 1)))
DOUBLING = (("add", 1, 0, 0, 1), ("add", 2, 1, 1, 1), ("add", 3, 2, 2, 1), ("add", 4, 3, 3, 1), ("add", 5, 4, 4, 1),
            ("add", 6, 5, 5, 1))


def slow_error(value):
    """Tell what tape_error tells, read off the document once more."""
    if type(value) is not tuple or len(value) != 2:
        return (None, "tape")
    places, moves = value
    if type(places) is not int or places < 1 or places > 80:
        return (None, "places")
    if type(moves) is not tuple or len(moves) > 600:
        return (None, "moves")
    degrees = {place: 1 for place in range(places)}
    for index, move in enumerate(moves):
        if type(move) is not tuple or not move or type(move[0]) is not str:
            return (index, "move")
        shape = {"gain": "ppc", "add": "pppc", "swap": "pp", "turn": "p", "more": "pc"}.get(move[0])
        if shape is None or len(shape) != len(move) - 1:
            return (index, "move")
        for kind, item in zip(shape, move[1:]):
            if type(item) is not int or kind == "p" and item not in degrees:
                return (index, "move")
        if move[0] in ("gain", "swap") and move[1] == move[2] or move[0] == "add" and move[1] in move[2:4]:
            return (index, "move")
        if move[0] == "gain" and degrees[move[1]] < degrees[move[2]]:
            degrees[move[1]] = degrees[move[2]]
        if move[0] == "add" and degrees[move[1]] < degrees[move[2]] + degrees[move[3]]:
            degrees[move[1]] = degrees[move[2]] + degrees[move[3]]
        if move[0] == "swap":
            degrees[move[1]], degrees[move[2]] = degrees[move[2]], degrees[move[1]]
        if max(degrees.values()) > 64:
            return (index, "degree")
    return None


def random_tape(seed, places, count, biggest=3):
    rng = random.Random(seed)
    moves = []
    while len(moves) < count:
        word = rng.choice(("gain", "add", "swap", "turn", "more", "gain"))
        spots = [rng.randrange(places) for _ in range({"gain": 2, "add": 3, "swap": 2}.get(word, 1))]
        rest = [] if word in ("swap", "turn") else [rng.randint(-biggest, biggest)]
        if spots[0] not in spots[1:]:
            moves.append((word, *spots, *rest))
        if tape_error((places, tuple(moves))) is not None:
            moves.pop()
    return (places, tuple(moves))


def random_filling(seed, places, biggest=10 ** 25):
    rng = random.Random(seed)
    return tuple(rng.randint(-biggest, biggest) for _ in range(places))


class TapeErrorTest(unittest.TestCase):

    def test_examples(self):
        self.assertEqual(tape_error((2, (("gain", 0, 0, 1),))), (0, "move"))
        self.assertIsNone(tape_error(T))
        self.assertIsNone(tape_error(ALL))

    def test_no_pair(self):
        for value in (None, (), (2,), (2, (), ()), [2, ()], "ab", {0: 2, 1: ()}):
            self.assertEqual(tape_error(value), (None, "tape"))

    def test_places(self):
        self.assertIsNone(tape_error((1, ())))
        self.assertIsNone(tape_error((80, (("turn", 79),))))
        for places in (0, 81, -1, True, None, "2", (2,), HUGE):
            self.assertEqual(tape_error((places, None)), (None, "places"))

    def test_moves(self):
        self.assertIsNone(tape_error((1, (("turn", 0),) * 600)))
        self.assertEqual(tape_error((1, (("turn", 0),) * 601)), (None, "moves"))
        for moves in (None, [], [("turn", 0)], {}, "turn"):
            self.assertEqual(tape_error((1, moves)), (None, "moves"))

    def test_what_is_a_move(self):
        right = (
            ("gain", 0, 2, 0), ("gain", 2, 0, HUGE), ("gain", 1, 0, -10 ** 30), ("add", 0, 1, 1, 5),
            ("add", 2, 0, 1, -HUGE), ("swap", 0, 1), ("turn", 2), ("more", 0, 10 ** 40), ("more", 2, 0),
        )
        for move in right:
            self.assertIsNone(tape_error((3, (move,))), move)

    def test_what_is_no_move(self):
        wrong = (
            (), ("gain",), ("gain", 0, 1), ("gain", 0, 1, 2, 3), ("gain", 0, 3, 1), ("gain", 3, 0, 1),
            ("gain", -1, 0, 1), ("gain", 0, -1, 1), ("gain", 1, 1, 1), ("gain", True, 0, 1), ("gain", 0, True, 1),
            ("gain", 0, 1, True), ("gain", 0, 1, None), ("gain", 0, 1, "1"), ("add", 0, 1, 2), ("add", 0, 0, 1, 1),
            ("add", 0, 1, 0, 1), ("add", 0, 0, 0, 1), ("add", 0, 1, 3, 1), ("add", 0, 3, 1, 1), ("add", 3, 1, 1, 1),
            ("add", 0, 1, 2, False), ("add", 0, 1, 2, 3, 4), ("add", False, 1, 2, 3), ("swap", 0, 0), ("swap", 0),
            ("swap", 0, 1, 2), ("swap", 0, 3), ("swap", 3, 0), ("swap", False, 1), ("turn",), ("turn", 3),
            ("turn", -1), ("turn", 0, 1), ("turn", True), ("more", 0), ("more", 3, 1), ("more", 0, 1, 1),
            ("more", 0, True), ("more", True, 0), ("more", (0,), 1), ("Gain", 0, 1, 1), ("less", 0, 1), ("", 0),
            (None, 0), (0, 1), (("turn",), 0), (["turn"], 0), ({}, 0), ["turn", 0], "turn", None, 0, {"turn": 0},
        )
        for move in wrong:
            self.assertEqual(tape_error((3, (("turn", 0), move, None))), (1, "move"), move)

    def test_degrees(self):
        self.assertIsNone(tape_error((8, DOUBLING)))
        beyond = DOUBLING + (("add", 7, 6, 0, 0), None)
        self.assertEqual(tape_error((8, beyond)), (6, "degree"))
        self.assertEqual(tape_error((8, DOUBLING + (("add", 7, 0, 6, 1),))), (6, "degree"))
        self.assertIsNone(tape_error((8, DOUBLING + (("gain", 7, 6, 1), ("turn", 7), ("more", 7, 1), ("swap", 0, 7)))))
        self.assertEqual(tape_error((8, DOUBLING + (("gain", 7, 6, 0), ("add", 0, 7, 1, 1)))), (7, "degree"))
        self.assertEqual(tape_error((8, DOUBLING + (("swap", 7, 6), ("add", 6, 7, 0, 1)))), (7, "degree"))
        self.assertIsNone(tape_error((8, DOUBLING + (("swap", 7, 6), ("add", 0, 6, 6, 1)))))
        self.assertEqual(tape_error((8, DOUBLING + (("more", 9, 1), ("add", 7, 6, 6, 1)))), (6, "move"))

    def test_bent_values(self):
        count = 0
        for value in list(bent(ALL)) + list(bent(T)) + [lists_of(ALL)]:
            self.assertEqual(tape_error(value), slow_error(value))
            count += tape_error(value) is None
        self.assertGreater(count, 20)


class MovedTest(unittest.TestCase):

    def test_examples(self):
        self.assertEqual(moved(T, (5, 4)), (15, -4))
        self.assertEqual(taken_back(T), (2, (("more", 0, 2), ("turn", 1), ("gain", 0, 1, -3))))
        self.assertEqual(sign(T), -1)
        self.assertEqual(moved(taken_back(T), (15, -4)), (5, 4))

    def test_each_word(self):
        for move, come in ((("gain", 0, 2, 3), (5 + 39, 7, 13)), (("add", 2, 0, 1, -2), (5, 7, 13 - 70)),
                           (("add", 1, 0, 0, 1), (5, 32, 13)), (("swap", 0, 2), (13, 7, 5)), (("turn", 1), (5, -7, 13)),
                           (("more", 2, -9), (5, 7, 4)), (("gain", 2, 1, 0), (5, 7, 13))):
            self.assertEqual(moved((3, (move,)), (5, 7, 13)), come)
        self.assertEqual(moved((3, ()), (5, 7, 13)), (5, 7, 13))
        self.assertEqual(moved(ALL, (1, 2, 3, 4)), (3 + 15 * 15, -15, 7, -4))

    def test_taken_back_leads_back(self):
        back = taken_back(ALL)
        self.assertEqual(back, (4, (("add", 0, 1, 1, -1), ("more", 1, -7), ("turn", 3), ("swap", 0, 2),
                                    ("add", 1, 2, 3, 2), ("gain", 0, 1, -3))))
        self.assertEqual(taken_back(back), ALL)
        self.assertEqual(taken_back((5, ())), (5, ()))
        led = 0
        for seed in range(60):
            tape = random_tape(seed, 2 + seed % 5, 15)
            filling = random_filling(seed, tape[0])
            try:
                back = taken_back(tape)
            except TooLong:
                continue
            led += 1
            self.assertIsNone(tape_error(back))
            self.assertEqual(moved(back, moved(tape, filling)), filling)
        self.assertGreater(led, 40)

    def test_taken_back_too_long(self):
        down = tuple(("add", k, k + 1, k + 1, 1) for k in range(6))
        self.assertIsNone(tape_error((7, down)))
        self.assertEqual(taken_back((7, down))[1][0], ("add", 5, 6, 6, -1))
        self.assertIsNone(tape_error(taken_back((7, down))))
        longer = tuple(("add", k, k + 1, k + 1, 0) for k in range(7))
        self.assertIsNone(tape_error((8, longer)))
        with self.assertRaises(TooLong):
            taken_back((8, longer))
        with self.assertRaises(TooLong):
            taken_back((8, (("add", 7, 6, 0, 1),) + DOUBLING[::-1]))

    def test_more_moves_than_may_be_and_numbers_of_any_size(self):
        many = (2, (("gain", 0, 1, 10 ** 30), ("turn", 0)) * 500)
        self.assertEqual(tape_error(many), (None, "moves"))
        self.assertEqual(moved(many, (3, 1)), (3, 1))
        self.assertEqual(len(taken_back(many)[1]), 1000)
        self.assertEqual(sign(many), 1)
        self.assertEqual(tape_polys(many), tape_polys((2, ())))
        self.assertTrue(same_moved(many, (2, ())))
        self.assertIsNone(unlike_filling(many, (2, ())))
        self.assertEqual(unlike_filling(many, (2, (("turn", 1),)))[1] != 0, True)
        with self.assertRaises(TooLong):
            tape_row(many)

    def test_sign(self):
        for moves, told_sign in (((), 1), ((("swap", 0, 1),), -1), ((("turn", 0),), -1), ((("more", 0, 1),), 1),
                                 ((("gain", 0, 1, -1),), 1), ((("add", 0, 1, 1, -1),), 1),
                                 ((("swap", 0, 1), ("turn", 1)), 1), ((("turn", 0),) * 3, -1)):
            self.assertEqual(sign((2, moves)), told_sign)

    def test_fillings_of_any_size(self):
        self.assertEqual(moved((2, (("add", 0, 1, 1, 1),)), (0, 10 ** 900)), (10 ** 1800, 10 ** 900))

    def test_eighty_places(self):
        tape = (80, tuple(("gain", k + 1, k, 1) for k in range(79)))
        self.assertEqual(moved(tape, (1,) * 80), tuple(range(1, 81)))
        self.assertEqual(moved(taken_back(tape), tuple(range(1, 81))), (1,) * 80)


class TapePolysTest(unittest.TestCase):

    def test_examples(self):
        self.assertEqual(tape_polys(T), ((((0, 0), -2), ((0, 1), 3), ((1, 0), 1)), (((0, 1), -1),)))
        self.assertIs(same_moved(T, (2, (("more", 0, -2), ("turn", 1), ("gain", 0, 1, -3)))), True)

    def test_random_tapes(self):
        for seed in range(60):
            tape = random_tape(seed, 2 + seed % 4, 12)
            try:
                found = tape_polys(tape)
            except TooWide:
                continue
            for count in range(2):
                filling = random_filling(seed + count, tape[0])
                self.assertEqual(tuple(value_of(poly, filling) for poly in found), moved(tape, filling))
                row = tape_row(tape)
                self.assertEqual(told(row, filling), moved(tape, filling))

    def test_twenty_places(self):
        tape = (20, tuple(("gain", k + 1, k, 1) for k in range(18)) + (("swap", 18, 19), ("add", 0, 1, 2, 2)))
        self.assertEqual([len(poly) for poly in tape_polys(tape)], [6] + list(range(2, 19)) + [1, 19])
        self.assertEqual(tape_polys(tape)[19], tuple(((0,) * k + (1,) + (0,) * (19 - k), 1) for k in range(18, -1, -1)))

    def test_one_pair_more(self):
        # A square of 19 unknowns has 190 pairs; the place has one of its own, and gains 9 or 10 more.
        square = tuple(("gain", 0, k, 1) for k in range(1, 19)) + (("add", 19, 0, 0, 1),)
        more = tuple(("gain", 19, k, 1) for k in range(1, 10))
        self.assertEqual(len(tape_polys((20, square))[19]), 191)
        self.assertEqual(len(tape_polys((20, square + more))[19]), 200)
        beyond = square + more + (("more", 19, 1),)
        for moves in (beyond, beyond + (("more", 19, -1),)):
            self.assertIsNone(tape_error((20, moves)))
            with self.assertRaises(TooWide):
                tape_polys((20, moves))
            for tell in (same_moved, unlike_filling):
                with self.assertRaises(TooWide):
                    tell((20, moves), (20, ()))
                with self.assertRaises(TooWide):
                    tell((20, ()), (20, moves))
                with self.assertRaises(Unfit):
                    tell((20, moves), (19, ()))
                with self.assertRaises(Unfit):
                    tell((19, ()), (20, moves))
        swapped = square + more + (("swap", 19, 0), ("turn", 0))
        self.assertEqual(len(tape_polys((20, swapped))[0]), 200)

    def test_each_move_is_taken_whole(self):
        # The square of 20 unknowns has 210 pairs: with the factor 0, or if they fall away at once, none is too much.
        sums = tuple(("gain", 0, k, 1) for k in range(1, 20))
        square = (21, sums + (("add", 20, 0, 0, 0),))
        self.assertEqual(len(tape_polys(square)[20]), 1)
        with self.assertRaises(TooWide):
            tape_polys((21, sums + (("add", 20, 0, 0, 1),)))
        # The place 19 has 55 of the 210 pairs of the last product less, so just 155 come.
        ten = tuple(("gain", 0, k, 1) for k in range(1, 10)) + (("add", 19, 0, 0, -1),)
        rest = tuple(("gain", 0, k, 1) for k in range(10, 19)) + (("more", 0, 1), ("add", 19, 0, 0, 1))
        self.assertEqual(len(tape_polys((20, ten + rest))[19]), 156)


class TapeRowTest(unittest.TestCase):

    def test_each_word(self):
        self.assertEqual(tape_row((3, (("gain", 0, 2, 5),))),
                         (3, (("in", 0), ("in", 1), ("in", 2), ("set", 5), ("*", 2, 3), ("+", 0, 4)), (5, 1, 2)))
        self.assertEqual(tape_row((3, (("add", 2, 1, 0, -4),))),
                         (3, (("in", 0), ("in", 1), ("in", 2), ("*", 1, 0), ("set", -4), ("*", 3, 4), ("+", 2, 5)),
                          (0, 1, 6)))
        self.assertEqual(tape_row((2, (("turn", 1),))), (2, (("in", 0), ("in", 1), ("neg", 1)), (0, 2)))
        self.assertEqual(tape_row((2, (("more", 0, 9),))), (2, (("in", 0), ("in", 1), ("set", 9), ("+", 0, 2)), (3, 1)))
        self.assertEqual(tape_row((2, (("swap", 0, 1),))), (2, (("in", 0), ("in", 1)), (1, 0)))
        self.assertEqual(tape_row((1, ())), (1, (("in", 0),), (0,)))

    def test_moves_one_behind_another(self):
        self.assertEqual(tape_row(ALL), (4, (
            ("in", 0), ("in", 1), ("in", 2), ("in", 3),
            ("set", 3), ("*", 1, 4), ("+", 0, 5),
            ("*", 2, 3), ("set", -2), ("*", 7, 8), ("+", 1, 9),
            ("neg", 3),
            ("set", 7), ("+", 10, 12),
            ("*", 13, 13), ("set", 1), ("*", 14, 15), ("+", 2, 16),
        ), (17, 13, 6, 11)))
        self.assertEqual(told(tape_row(ALL), (1, 2, 3, 4)), moved(ALL, (1, 2, 3, 4)))

    def test_as_many_steps_as_may_be(self):
        just = (20, (("turn", 0),) * 380)
        self.assertEqual(len(tape_row(just)[1]), 400)
        with self.assertRaises(TooLong):
            tape_row((20, just[1] + (("turn", 0),)))
        self.assertEqual(len(tape_row((20, just[1] + (("swap", 0, 1),)))[1]), 400)

    def test_sizes(self):
        # Each factor c makes a product greater by 1, so sizes grow ahead of degrees.
        tape = (2, (("gain", 0, 1, 1), ("gain", 1, 0, 1)) * 32)
        self.assertIsNone(tape_error(tape))
        with self.assertRaises(TooLong):
            tape_row(tape)
        shorter = (2, tape[1][:63])
        self.assertIsNone(long_error(tape_row(shorter)))
        with self.assertRaises(TooLong):
            tape_row((7, DOUBLING))

    def test_numbers_beyond_the_bound(self):
        self.assertEqual(tape_row((1, (("more", 0, MAX_NUMBER),)))[1][1], ("set", MAX_NUMBER))
        for number in (MAX_NUMBER + 1, -MAX_NUMBER - 1):
            with self.assertRaises(TooLong):
                tape_row((1, (("more", 0, number),)))


class SameMovedTest(unittest.TestCase):

    def test_same(self):
        for one, other in (((2, (("swap", 0, 1),)), (2, (("swap", 1, 0),))),
                           ((2, (("swap", 0, 1),) * 2), (2, ())),
                           ((2, (("gain", 0, 1, 1), ("gain", 1, 0, -1), ("gain", 0, 1, 1), ("turn", 1))),
                            (2, (("swap", 0, 1),)))):
            self.assertIs(same_moved(one, other), True)
            self.assertIsNone(unlike_filling(one, other))

    def test_unlike(self):
        for one, other in ((T, (2, T[1][:2])), ((1, (("turn", 0),)), (1, ())), ((2, (("swap", 0, 1),)), (2, ())),
                           ((3, (("add", 0, 1, 2, 5),)), (3, ())), ((3, ()), (3, (("add", 0, 1, 1, 1),))),
                           ((2, (("add", 0, 1, 1, 1),)), (2, (("gain", 0, 1, 1),)))):
            self.assertIs(same_moved(one, other), False)
            filling = unlike_filling(one, other)
            self.assertEqual([type(filling), len(filling)], [tuple, one[0]])
            self.assertTrue(all(type(number) is int for number in filling))
            self.assertNotEqual(moved(one, filling), moved(other, filling))

    def test_tapes_and_taken_back(self):
        for seed in range(30):
            tape = random_tape(seed, 3, 8)
            try:
                back = taken_back(tape)
                self.assertTrue(same_moved((3, tape[1] + back[1]), (3, ())))
            except (TooLong, TooWide):
                continue

    def test_random_tapes(self):
        for seed in range(40):
            one, other = random_tape(seed, 3, 4, biggest=1), random_tape(seed + 300, 3, 4, biggest=1)
            filling = unlike_filling(one, other)
            self.assertIs(same_moved(one, other), filling is None)
            if filling is not None:
                self.assertNotEqual(moved(one, filling), moved(other, filling))

    def test_unfit(self):
        for tell in (same_moved, unlike_filling):
            with self.assertRaises(Unfit):
                tell((2, ()), (3, ()))

    def test_names_and_equal_calls(self):
        before = repr(ALL)
        self.assertIsNone(tape_error(value=ALL))
        self.assertEqual(moved(tape=ALL, filling=(1, 2, 3, 4)), moved(ALL, (1, 2, 3, 4)))
        self.assertEqual([taken_back(tape=ALL), sign(tape=ALL)], [taken_back(ALL), 1])
        self.assertEqual([tape_polys(tape=ALL), tape_row(tape=ALL)], [tape_polys(ALL), tape_row(ALL)])
        self.assertTrue(same_moved(one=ALL, other=ALL))
        self.assertIsNone(unlike_filling(one=ALL, other=ALL))
        self.assertEqual(repr(ALL), before)


if __name__ == "__main__":
    unittest.main()
