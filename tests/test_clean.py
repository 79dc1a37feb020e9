import unittest

from helper import BEYOND, FULL, HUGE, JUST, NARROW, NOT_NEEDED, STEPS, TAKEN_AWAY
from helper import bent, chain, full_row, lists_of, random_point, random_row
from rowsback.clean import clean_tape, is_clean
from rowsback.errors import TooWide
from rowsback.rows import row_error, told
from rowsback.tapes import moved, taken_back, tape_error

SQUARE = (1, (("in", 0), ("*", 0, 0)), (1,))
Q = (2, (("in", 0), ("in", 1), ("*", 0, 1), ("+", 2, 0)), (3, 1))
TWO = (2, (("in", 0), ("in", 1), ("*", 0, 1)), (2, 2))


class CleanTapeTest(unittest.TestCase):

    def check(self, row):
        """Look at a clean tape by its fillings alone."""
        tape = clean_tape(row)
        inputs, steps, ends = row
        self.assertIsNone(tape_error(tape))
        rooms = tape[0] - inputs - len(ends)
        self.assertTrue(0 <= rooms <= len(steps))
        self.assertLessEqual(len(tape[1]), 4 * len(steps) + len(ends))
        for seed in range(3):
            point = random_point(seed, inputs, 10 ** 20)
            there = random_point(seed + 9, len(ends), 10 ** 20)
            come = tuple(low + high for low, high in zip(there, told(row, point)))
            self.assertEqual(moved(tape, point + (0,) * rooms + there), point + (0,) * rooms + come)
        self.assertEqual(clean_tape(row), tape)
        return tape

    def test_example(self):
        self.assertIs(is_clean(SQUARE, clean_tape(SQUARE)), True)

    def test_each_word(self):
        for step in (("in", 1), ("set", 4), ("set", 0), ("neg", 0), ("+", 0, 1), ("-", 0, 1), ("*", 0, 1), ("*", 1, 1),
                     ("-", 0, 0), ("+", 0, 0), ("+", 2, 0), ("-", 2, 0), ("-", 0, 2), ("*", 2, 0), ("*", 2, 2)):
            for ends in ((3,), (3, 3), (3, 0, 2, 3)):
                row = (2, (("in", 0), ("in", 1), ("set", 7), step), ends)
                self.assertIs(is_clean(row, self.check(row)), True)

    def test_rows_without_inputs(self):
        row = (0, (("set", 3), ("*", 0, 0), ("neg", 1)), (2, 0, 2))
        self.assertIs(is_clean(row, self.check(row)), True)

    def test_rows_of_inputs_alone(self):
        row = (3, (("in", 2), ("in", 0), ("in", 2)), (2, 0, 1, 1))
        self.assertIs(is_clean(row, self.check(row)), True)

    def test_random_rows(self):
        judged = 0
        for seed in range(60):
            row = random_row(seed, seed % 4, 14, 3, most=5)
            tape = self.check(row)
            try:
                self.assertIs(is_clean(row, tape), True)
                judged += 1
            except TooWide:
                continue
        self.assertGreater(judged, 50)

    def test_as_many_of_all_as_may_be(self):
        row = full_row()
        self.assertIsNone(row_error(row))
        self.check(row)
        sums = (8, (("set", 1),) + tuple(("+", k, k) for k in range(59)), (59,) * 8)
        tape = self.check(sums)
        self.assertLessEqual(tape[0], 76)
        self.assertLessEqual(len(tape[1]), 248)
        self.assertIs(is_clean(sums, tape), True)
        for seed in range(20):
            self.check(random_row(seed, 8, 60, 8))

    def test_greatest_size(self):
        for ends in ((6,), (6, 0, 6)):
            row = (1, chain(64), ends)
            tape = self.check(row)
            self.assertIs(is_clean(row, tape), True)
            self.assertEqual(taken_back(tape)[0], tape[0])
        sets = (1, (("in", 0), ("set", 1)) + tuple(("*", k, k) for k in range(1, 6)) + (("+", 6, 0), ("*", 7, 7)), (8,))
        self.assertIs(is_clean(sets, self.check(sets)), True)

    def test_steps_that_no_end_needs(self):
        self.assertIs(is_clean((2, STEPS, (NARROW,)), self.check((2, STEPS, (NARROW,)))), True)

    def test_wide_rows(self):
        for row in (TAKEN_AWAY, BEYOND, JUST, NOT_NEEDED):
            self.check(row)
        for row in (TAKEN_AWAY, BEYOND, JUST):
            with self.assertRaises(TooWide):
                is_clean(row, clean_tape(row))


class IsCleanTest(unittest.TestCase):

    def test_examples(self):
        self.assertIs(is_clean(SQUARE, (2, (("add", 1, 0, 0, 1),))), True)
        self.assertIs(is_clean(SQUARE, (2, (("more", 1, 1),))), False)
        self.assertIs(is_clean(SQUARE, None), False)

    def test_rooms(self):
        room = (("add", 1, 0, 0, 1), ("gain", 2, 1, 1), ("add", 1, 0, 0, -1))
        self.assertIs(is_clean(SQUARE, (3, room)), True)
        self.assertIs(is_clean(SQUARE, (3, room[:2])), False)
        self.assertIs(is_clean(SQUARE, (4, (("add", 3, 0, 0, 1),))), True)
        self.assertIs(is_clean(SQUARE, (80, (("add", 79, 0, 0, 1),))), True)
        self.assertIs(is_clean(SQUARE, (81, (("add", 79, 0, 0, 1),))), False)
        self.assertIs(is_clean(SQUARE, (4, (("add", 2, 0, 0, 1),))), False)

    def test_rooms_have_noughts_at_first(self):
        for move in (("gain", 2, 1, 5), ("add", 2, 1, 0, 5), ("turn", 1), ("gain", 0, 1, 1), ("add", 1, 2, 2, 0)):
            moves = (move, ("add", 2, 0, 0, 1))
            self.assertIs(is_clean(SQUARE, (3, moves)), True, move)
        for move in (("more", 1, 1), ("gain", 1, 0, 1), ("gain", 1, 2, 1)):
            self.assertIs(is_clean(SQUARE, (3, (move, ("add", 2, 0, 0, 1)))), False, move)

    def test_inputs_come_back(self):
        row = (2, (("in", 0), ("in", 1), ("+", 0, 1)), (2,))
        sums = (("gain", 0, 1, 1), ("gain", 2, 0, 1))
        self.assertIs(is_clean(row, (3, sums)), False)
        self.assertIs(is_clean(row, (3, sums + (("gain", 0, 1, -1),))), True)
        self.assertIs(is_clean(row, (3, sums + (("gain", 0, 1, -1), ("swap", 0, 1)))), False)
        self.assertIs(is_clean(row, (3, sums + (("gain", 0, 1, -1), ("turn", 1)))), False)

    def test_ends_gain(self):
        self.assertIs(is_clean(SQUARE, (2, (("turn", 1), ("add", 1, 0, 0, 1)))), False)
        self.assertIs(is_clean(SQUARE, (2, (("add", 1, 0, 0, -1),))), False)
        self.assertIs(is_clean(SQUARE, (2, (("turn", 1), ("add", 1, 0, 0, -1), ("turn", 1)))), True)
        both = (("add", 2, 0, 1, 1), ("add", 3, 0, 1, 1))
        self.assertIs(is_clean(TWO, (4, both)), True)
        self.assertIs(is_clean(TWO, (4, both[:1])), False)
        self.assertIs(is_clean(TWO, (4, both[1:])), False)
        self.assertIs(is_clean(TWO, (4, (("gain", 3, 2, 1),) + both)), False)
        self.assertIs(is_clean(TWO, (4, (("gain", 3, 2, 1),) + both + (("gain", 3, 2, -1), ("add", 3, 0, 1, 1)))), True)

    def test_no_two_places_are_exchanged(self):
        both = (("add", 3, 0, 1, 1), ("add", 4, 0, 1, 1))
        self.assertIs(is_clean(TWO, (5, both)), True)
        for one in range(5):
            for other in range(one):
                swap = (("swap", one, other),)
                self.assertIs(is_clean(TWO, (5, both + swap)), False)
                self.assertIs(is_clean(TWO, (5, swap + both)), False)
                self.assertIs(is_clean(TWO, (5, swap + swap + both)), True)

    def test_ends_in_their_order(self):
        row = (2, (("in", 0), ("in", 1)), (1, 0))
        self.assertIs(is_clean(row, (4, (("gain", 2, 1, 1), ("gain", 3, 0, 1)))), True)
        self.assertIs(is_clean(row, (4, (("gain", 2, 0, 1), ("gain", 3, 1, 1)))), False)

    def test_too_few_places(self):
        self.assertIs(is_clean(TWO, (3, (("add", 2, 0, 1, 1),))), False)
        self.assertIs(is_clean(SQUARE, (1, ())), False)
        self.assertIs(is_clean(TAKEN_AWAY, (2, ())), False)
        self.assertIs(is_clean(TAKEN_AWAY, None), False)
        self.assertIs(is_clean(TAKEN_AWAY, (3, (("jump", 0),))), False)

    def test_numbers_of_any_size(self):
        moves = (("more", 1, HUGE), ("add", 1, 0, 0, 1), ("more", 1, -HUGE))
        self.assertIs(is_clean(SQUARE, (2, moves)), True)
        self.assertIs(is_clean(SQUARE, (2, moves[:2])), False)

    def test_as_many_moves_as_may_be(self):
        tape = (2, (("turn", 0),) * 598 + (("add", 1, 0, 0, 1), ("more", 1, 0)))
        self.assertIs(is_clean(SQUARE, tape), True)
        self.assertIs(is_clean(SQUARE, (2, tape[1] + (("more", 1, 0),))), False)

    def test_too_wide_rows(self):
        for row in (TAKEN_AWAY, BEYOND):
            with self.assertRaises(TooWide):
                is_clean(row, (len(row[2]) + 2, ()))
        self.assertIs(is_clean((2, STEPS, (FULL,)), (3, ())), False)

    def test_too_wide_tapes(self):
        steps = tuple(("in", k) for k in range(8)) + (("set", 1),)
        row = (8, steps, tuple(range(8)))
        sums = tuple(("gain", 0, k, 1) for k in range(1, 8)) + (("more", 0, 1),)
        # The room 8 has a sum of 9 numbers to the power 3: 165 pairs; with the power 4 there are 495.
        powers = (("gain", 10, 0, 1), ("add", 9, 0, 0, 1), ("add", 8, 9, 0, 1))
        good = tuple(("gain", 11 + k, k, 1) for k in range(8))
        back = taken_back((19, sums + powers))[1]
        self.assertIs(is_clean(row, (19, good + sums + powers + back)), True)
        beyond = sums + powers + (("add", 10, 8, 0, 1),)
        self.assertIsNone(tape_error((19, good + beyond)))
        with self.assertRaises(TooWide):
            is_clean(row, (19, good + beyond + taken_back((19, beyond))[1]))
        with self.assertRaises(TooWide):
            is_clean(row, (19, (("more", 8, 1),) + beyond))

    def test_bent_values(self):
        for row in (SQUARE, Q):
            tape = clean_tape(row)
            judged = {True: 0, False: 0}
            for value in list(bent(tape)) + [lists_of(tape)]:
                found = is_clean(row, value)
                self.assertIs(type(found), bool)
                judged[found] += 1
                if found:
                    many, point, there = row[0] + len(row[2]), (3, 5)[:row[0]], (7, 9)[:len(row[2])]
                    come = tuple(low + high for low, high in zip(there, told(row, point)))
                    rooms = (0,) * (value[0] - many)
                    self.assertEqual(moved(value, point + rooms + there), point + rooms + come)
            self.assertGreater(judged[False], 100)

    def test_names_and_equal_calls(self):
        before = repr((Q, SQUARE))
        value = lists_of(clean_tape(Q))
        self.assertIs(is_clean(row=Q, value=value), False)
        self.assertIs(is_clean(row=Q, value=clean_tape(row=Q)), True)
        self.assertEqual([value, repr((Q, SQUARE))], [lists_of(clean_tape(Q)), before])


if __name__ == "__main__":
    unittest.main()
