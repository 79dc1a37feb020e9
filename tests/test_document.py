"""What the document says over all modules: rows that are the same, equal arguments, limits, and any values."""

import random
import unittest
from fractions import Fraction

from helper import HUGE, ODD, bent, random_point, random_row
from rowsback.backward import backward, is_backward
from rowsback.boxes import corner, growth, is_box, middle, point_count, ranges
from rowsback.clean import clean_tape, is_clean
from rowsback.desks import Desk, KeptDesk
from rowsback.errors import BadPlan, RowError, TooWide, Unfit
from rowsback.fitting import fed, slim
from rowsback.groups import both_groups, group_count, groups, is_both, is_grouping, rates_by, squeezed, together
from rowsback.holding import are_slots, best_order, held, is_order, load, slots
from rowsback.keeping import extended, extended_holds, forgets, forgotten, kept_weights, tells_back
from rowsback.leasts import greatest, is_least_paper, least, least_paper, signs
from rowsback.lifts import bare, endless, endless_holds, lifted
from rowsback.matches import blocks, cover, is_cover, is_pairs, pairs
from rowsback.moduli import count_by, nought_at, nought_count, noughts
from rowsback.moments import best_plan, gone, least_cost, least_room, plan_cost, plan_error, run_rounds, swept_rounds
from rowsback.patterns import pattern_error, pattern_of
from rowsback.pebbles import acts_needed, farthest, is_way, pebble_way, pebbles_needed
from rowsback.places import in_place, in_place_holds
from rowsback.points import lifted_point, rough, smooth, smooth_count
from rowsback.polys import value_of
from rowsback.rates import forward, hangs, is_forward, rate, rate_poly, rates_at, second
from rowsback.reach import determinant, hinders, hindrance, origin, rank, relations, undone
from rowsback.rounds import after, after_rests, alike_from, comes_back, gathered, run_after, settles
from rowsback.rows import degrees, is_point, long_error, row_error, told, values
from rowsback.sames import parting, polys, same
from rowsback.shells import Shell
from rowsback.straight import is_plain, is_straight, row_of, table_of
from rowsback.sweeps import kept, seconds_at, swept
from rowsback.tapes import moved, same_moved, sign, tape_error, tape_polys, tape_row
from rowsback.texts import read_row, row_text
from rowsback.turned import is_turned, turned


def otherwise(row):
    """Return the same row with other steps: each one turned twice, sums and products the other way about."""
    steps, number_of = [("set", 5)], []
    for step in row[1]:
        if step[0] in ("in", "set"):
            steps.append(step)
        else:
            parts = [number_of[part] for part in step[1:]]
            steps.append((step[0],) + tuple(parts[::-1] if step[0] in "+*" else parts))
        steps += [("neg", len(steps) - 1), ("neg", len(steps))]
        number_of.append(len(steps) - 1)
    return (row[0], tuple(steps), tuple(number_of[end] for end in row[2]))


def straight_row(seed, inputs, ends):
    table = tuple(random_point(seed + 80 * end, inputs, 3) for end in range(ends))
    return row_of(inputs, table, random_point(seed, ends, 4))


class SameRowsTest(unittest.TestCase):
    """Functions tell what they tell by the ends for all numbers alone, unless they speak of steps."""

    def pairs_of_rows(self, count, inputs, ends):
        for seed in range(count):
            row = random_row(seed, inputs, 12, ends, most=4)
            other = otherwise(row)
            self.assertEqual([row_error(other), same(row, other), parting(row, other)], [None, True, None])
            yield seed, row, other

    def alike(self, row, other, *calls):
        for call in calls:
            self.assertEqual(call(row), call(other))

    def test_rates_and_polynomials(self):
        for seed, row, other in self.pairs_of_rows(25, 3, 2):
            point, weights = random_point(seed, 3, 99), random_point(seed, 2, 99)
            self.alike(row, other, polys, hangs, pattern_of, degrees_of_ends, lambda one: rate_poly(one, 1, 2),
                       lambda one: second(one, 0, 1, 2), lambda one: told(one, point), lambda one: rates_at(one, point),
                       lambda one: swept(one, point, weights), lambda one: seconds_at(one, 0, point),
                       lambda one: squeezed(one, groups(pattern_of(one)), point), lambda one: rates_by(one, groups(pattern_of(one)), point))
            self.assertEqual([is_forward(other, forward(row)), is_backward(other, backward(row)), is_clean(other, clean_tape(row))],
                             [True] * 3)

    def test_boxes_and_noughts(self):
        for seed, row, other in self.pairs_of_rows(25, 2, 2):
            box = ((-2, seed % 3), (seed % 5 - 4, 2))
            self.alike(row, other, lambda one: least(one, 1, box), lambda one: greatest(one, 1, box), lambda one: signs(one, 1, box),
                       lambda one: smooth(one, 0, 5), lambda one: rough(one, 0, 5), lambda one: smooth_count(one, 0, 5, 3))
            for point in smooth(row, 0, 3):
                index = [k for k in (0, 1) if rates_at(row, point)[0][k] % 3][0]
                self.alike(row, other, lambda one: lifted_point(one, 0, 3, 4, point, index))

    def test_one_input(self):
        for _, row, other in self.pairs_of_rows(40, 1, 1):
            self.alike(row, other, lambda one: noughts(one, 0, 2, 6), lambda one: nought_count(one, 0, 3, 5),
                       lambda one: nought_at(one, 0, 3, 5, 1), lambda one: count_by(one, 0, ((2, 3), (5, 2))))
            if polys(row)[0]:
                self.alike(row, other, lambda one: bare(one, 0), lambda one: endless(one, 0, 3)[0])
                self.assertIs(endless_holds(other, 0, 3, endless(row, 0, 3)), True)
            for number in range(3):
                if told(row, (number,))[0] % 3 == 0 and rates_at(row, (number,))[0][0] % 3:
                    self.alike(row, other, lambda one: lifted(one, 0, 3, 7, number))

    def test_straight_rows(self):
        for seed in range(25):
            row = straight_row(seed, 3, 3)
            # Too long to be turned step by step: so its ends are turned alone.
            ends = row[2]
            other = (3, row[1] + tuple(("neg", end) for end in ends), tuple(len(row[1]) + k for k in range(3)))
            other = (3, other[1] + tuple(("neg", end) for end in other[2]), tuple(len(other[1]) + k for k in range(3)))
            self.assertIs(same(row, other), True)
            point, wish = random_point(seed, 3, 9), random_point(seed + 1, 3, 9)
            self.alike(row, other, is_straight, table_of, relations, rank, determinant, undone, comes_back, settles,
                       lambda one: after(one, 9), lambda one: gathered(one, 4), lambda one: after_rests(one, 10 ** 17, 97),
                       lambda one: run_after(one, point, 3), lambda one: run_rounds(one, point, 3), lambda one: alike_from(one, row),
                       lambda one: swept_rounds(one, point, wish, 2, best_plan((1,) * 4, 2)), lambda one: forgets(one, point),
                       lambda one: tells_back(one, ((1, 2, 3),)), lambda one: len(forgotten(one)), lambda one: extended(one)[0],
                       lambda one: in_place(one)[0], lambda one: origin(one, wish) is None)
            self.assertEqual([alike_from(row, other), is_turned(other, turned(row)), in_place_holds(other, in_place(row)),
                              extended_holds(other, extended(row)), tells_back(other, kept_weights(row))], [0, True, True, True, True])
            bar = hindrance(row, wish)
            self.assertEqual(hinders(other, wish, bar), bar is not None)

    def test_what_speaks_of_steps_may_differ(self):
        row = (1, (("in", 0), ("*", 0, 0), ("-", 1, 1), ("+", 0, 2)), (3,))
        plain = (1, (("in", 0),), (0,))
        self.assertEqual([same(row, plain), is_plain(row), is_plain(plain), degrees(row)[3], kept(row), kept(plain)],
                         [True, False, True, 2, (0,), ()])
        self.assertEqual([ranges(row, ((-1, 2),)), ranges(plain, ((-1, 2),))], [((-7, 8),), ((-1, 2),)])


def degrees_of_ends(row):
    """Return the degrees of the ends, as steps turned or exchanged leave them."""
    return [degrees(row)[end] for end in row[2]]


class EqualArgumentsTest(unittest.TestCase):

    def again(self, value):
        """Return an equal value made anew."""
        return tuple([self.again(part) for part in value]) if isinstance(value, tuple) else value

    def test_equal_arguments_lead_to_equal_results(self):
        for seed in range(15):
            row = random_row(seed, 2, 12, 2, most=4)
            point, box = random_point(seed, 2, 9), ((-1, seed % 4), (0, 2))
            pattern = pattern_of(row)
            for call, *arguments in ((forward, row), (backward, row), (clean_tape, row), (slim, row), (parting, row, forward(row)[:2] + (row[2],)),
                                     (least_paper, row, 0, box), (pairs, pattern), (cover, pattern), (blocks, pattern), (best_order, row),
                                     (rates_at, row, point), (smooth, row, 0, 3), (middle, box), (growth, row, box)):
                try:
                    first = call(*arguments)
                except Unfit:
                    continue
                self.assertEqual(first, call(*[self.again(one) for one in arguments]))
                self.assertEqual(type(first), tuple if first is not None else type(None))

    def test_what_is_straight(self):
        for seed in range(15):
            row, wish = straight_row(seed, 3, 2 + seed % 2), random_point(seed, 2 + seed % 2, 9)
            for call, *arguments in ((forgotten, row), (kept_weights, row), (extended, row), (origin, row, wish), (hindrance, row, wish),
                                     (turned, row), (relations, row)):
                first = call(*arguments)
                self.assertEqual(first, call(*[self.again(one) for one in arguments]))


class LimitsTest(unittest.TestCase):
    """What goes somewhat beyond a limit raises no error where none is told."""

    def test_somewhat_beyond(self):
        line = (1, (("in", 0),), (0,))
        more = (1, (("in", 0), ("set", 1), ("+", 0, 1)), (2,))
        self.assertEqual([noughts(line, 0, 1009, 61), nought_at(line, 0, 2, 70, 0), lifted(line, 0, 1009, 65, 0)], [((0, 61),), 0, 0])
        self.assertEqual([acts_needed(64, 7), acts_needed(65, 7), pebbles_needed(65), pebbles_needed(128), acts_needed(70, 70)],
                         [acts_needed(64, 7), None, 8, 8, 139])
        self.assertEqual([is_way(64, 7, pebble_way(64, 7)), farthest(64, 10 ** 10)], [True, 60])
        self.assertEqual([after(more, 150), run_after(more, (0,), 101), gathered(more, 101)], [(((1,),), (150,)), (101,), (((101,),), (5151,))])
        self.assertEqual(after_rests(more, 10 ** 19, 10 ** 21)[1], (10 ** 19,))
        self.assertEqual([least_cost((1,) * 45, 45), plan_error(45, 45, best_plan((1,) * 45, 45)), least_room((1,) * 45, 44)], [44, None, 44])
        self.assertEqual([run_rounds(more, (0,), 50), is_box(line, ((0, 10 ** 20),)), point_count(((0, 10 ** 30),))],
                         [(50,), True, 10 ** 30 + 1])
        self.assertEqual(tells_back(line, ((0,),) * 12), True)
        self.assertEqual([told(line, (10 ** 30,)), rates_at(line, (10 ** 30,)), swept(line, (10 ** 30,), (10 ** 30,))],
                         [(10 ** 30,), ((1,),), (10 ** 30,)])


class AnyValuesTest(unittest.TestCase):
    """What functions of the package returned, and odd values, are judged by all that take any value."""

    ROW = (2, (("in", 0), ("in", 1), ("*", 0, 1), ("+", 2, 0)), (3, 1))
    FLAT = (2, (("in", 0), ("in", 1), ("+", 0, 1)), (2, 1))
    ONE = (1, (("in", 0), ("*", 0, 0), ("set", 17), ("-", 1, 2)), (3,))
    BOX = ((-1, 2), (3, 4))

    def values(self):
        row, flat, one, box = self.ROW, self.FLAT, self.ONE, self.BOX
        pattern = pattern_of(row)
        made = [row, flat, one, box, pattern, forward(row), backward(row), clean_tape(row), in_place(flat), in_place(flat)[1], extended(flat),
                least_paper(row, 0, box), least_paper(row, 0, box)[2], pairs(pattern), cover(pattern), groups(pattern), blocks(pattern),
                best_order(row), slots(row, best_order(row)), best_plan((1, 2, 3, 4), 2), pebble_way(5, 4), endless(one, 0, 2), noughts(one, 0, 2, 9),
                turned(flat), relations(flat), table_of(flat), undone(flat), polys(row), both_groups(pattern), rates_at(row, (2, 3)),
                growth(row, box), ranges(row, box), values(row, (2, 3)), row_text(row), told(row, (HUGE, 1)), Desk(row).ends, str(Desk(row)),
                after(flat, 9), hindrance((1, (("in", 0), ("+", 0, 0)), (1,)), (5,)), row_error(None), corner(row, 1, box)]
        return made + list(ODD) + [value for part in made[:20:4] for value in list(bent(part))[::7]]

    def judges(self):
        row, flat, one, box = self.ROW, self.FLAT, self.ONE, self.BOX
        pattern = pattern_of(row)
        return (lambda v: is_point(row, v), lambda v: is_forward(row, v), lambda v: is_backward(row, v), lambda v: is_clean(row, v),
                lambda v: in_place_holds(flat, v), lambda v: extended_holds(flat, v), lambda v: is_least_paper(row, 0, box, v),
                lambda v: is_pairs(pattern, v), lambda v: is_cover(pattern, v), lambda v: is_grouping(pattern, v), lambda v: is_both(pattern, v),
                lambda v: is_order(row, v), lambda v: are_slots(row, best_order(row), v), lambda v: is_way(5, 4, v),
                lambda v: endless_holds(one, 0, 2, v), lambda v: is_turned(flat, v), lambda v: is_box(row, v), lambda v: hinders(flat, (1, 2), v))

    def test_judges_tell_whether(self):
        right = 0
        judges = self.judges()
        for value in self.values():
            for judge in judges:
                try:
                    found = judge(value)
                except TooWide:
                    continue
                self.assertIs(type(found), bool)
                right += found
        self.assertGreater(right, 20)

    def test_errors_that_are_told(self):
        for value in self.values():
            for call in (row_error, long_error, pattern_error, tape_error, lambda v: plan_error(4, 2, v)):
                found = call(value)
                self.assertTrue(found is None or type(found) is tuple and len(found) == 2)
            for call in (read_row, Desk, lambda v: KeptDesk(self.ROW, v), lambda v: plan_cost((1, 2), 1, v), lambda v: gone(2, 1, v),
                         lambda v: held(self.ROW, v), lambda v: load(self.ROW, v), lambda v: slots(self.ROW, v),
                         lambda v: swept_rounds(self.FLAT, (1, 2), (3, 4), 2, v), Desk(self.ROW).batch, Desk(self.ROW).add,
                         Desk(self.ROW).unlabel, Desk(self.ROW).told, Desk(self.ROW).poly, lambda v: Desk(self.ROW).put(v, v),
                         lambda v: Desk(self.ROW).label(v, v), lambda v: Desk(self.ROW).rates(v, v), lambda v: Desk(self.ROW)[v]):
                try:
                    call(value)
                except RowError as error:
                    self.assertIsNot(type(error), RowError)
            self.assertIs(type(Shell().say(value)), str)
            self.assertIs(value in Desk(self.ROW), value in ("a", "b") if isinstance(value, str) else False)

    def test_all_that_is_no_plan_is_told_by_its_error(self):
        for value in self.values():
            error = plan_error(4, 2, value)
            if error is not None:
                with self.assertRaises(BadPlan) as caught:
                    plan_cost((1, 2, 3, 4), 2, value)
                self.assertEqual(caught.exception.error, error)

    def test_not_equal_is_the_opposite_of_equal(self):
        desks = [Desk(self.ROW), Desk(self.ROW), KeptDesk(self.ROW, ("a",)), Desk(self.FLAT)]
        for one in desks:
            for other in desks + self.values() + [object(), 1.5, b"a", {1, 2}]:
                self.assertEqual(one == other, not one != other)
                self.assertEqual(other == one, not other != one)
                self.assertIs(type(one == other), bool)


class MoreFactsTest(unittest.TestCase):

    def test_tapes_beside_the_rows_that_do_them(self):
        for seed in range(15):
            row = random_row(seed, 2, 6, 1, most=3)
            tape = clean_tape(row)
            filling = random_point(seed, 2, 9) + (0,) * (tape[0] - 3) + (7,)
            self.assertEqual(moved(tape, filling), filling[:-1] + (7 + told(row, filling[:2])[0],))
            if tape[0] <= 20:
                self.assertIs(same_moved(tape, tape), True)
                self.assertEqual(len(tape_polys(tape)), tape[0])

    def test_what_comes_by_a_tape_has_its_sign_as_the_determinant_of_its_rates(self):
        signs_told = {}
        for seed in range(60):
            rng = random.Random(seed)
            places = 2 + seed % 4
            moves = []
            for _ in range(rng.randint(1, 7)):
                one, other, third = rng.sample(range(max(3, places)), 3)
                move = rng.choice((("gain", one, other, rng.randint(-3, 3)), ("add", one, other, third, rng.randint(-3, 3)),
                                   ("add", one, other, other, 2), ("swap", one, other), ("turn", one), ("more", one, 4)))
                moves.append(move)
            tape = (max(3, places), tuple(moves))
            filling = random_point(seed, tape[0], 9)
            rates = rates_at(tape_row(tape), filling)
            if max(abs(number) for some in rates for number in some) <= 10 ** 20:
                found = determinant(row_of(tape[0], rates, (0,) * tape[0]))
                self.assertEqual(found, sign(tape))
                signs_told[found] = signs_told.get(found, 0) + 1
        self.assertGreater(min(signs_told[1], signs_told[-1]), 10)

    def test_with_an_unknown_greater_by_some_number(self):
        """A polynomial is its value, and the number times its rate, and what has the number twice as a factor."""
        for seed in range(30):
            row = random_row(seed, 3, 12, 1, most=5)
            poly = polys(row)[0]
            point = random_point(seed, 3, 30)
            for unknown in range(3):
                for more in (1, -2, 7, 10 ** 9):
                    far = point[:unknown] + (point[unknown] + more,) + point[unknown + 1:]
                    rest = value_of(poly, far) - value_of(poly, point) - more * value_of(rate(poly, unknown), point)
                    self.assertEqual(rest % (more * more), 0)

    def test_rows_that_do_not_settle_grow_beyond_all_bounds(self):
        kinds = {True: 0, False: 0}
        for seed in range(80):
            row = straight_row(seed, 2, 2)
            found = settles(row)
            greatest_told = [max(abs(number) for some in after(row, times)[0] + (after(row, times)[1],) for number in some)
                             for times in range(0, 90, 3)]
            if found is None:
                # Integers that never come again cannot all stay small.
                self.assertGreater(max(greatest_told[15:]), max(greatest_told[:10]))
            else:
                start, ring = found
                self.assertEqual([after(row, start + ring * many) for many in (1, 2, 5)], [after(row, start)] * 3)
            kinds[found is None] += 1
        self.assertGreater(min(kinds.values()), 1)

    def test_the_ends_of_a_box_lie_in_its_ranges_between_its_points_too(self):
        """Ranges have fractions, too: those of a row with all inputs as halves hold for the halves."""
        for seed in range(20):
            row = random_row(seed, 2, 9, 1, most=3)
            box = ((-3, 2), (-1, 3))
            (low, high), = ranges(row, box)
            for x in range(-6, 5):
                for y in range(-2, 7):
                    value = sum(factor * Fraction(x, 2) ** powers[0] * Fraction(y, 2) ** powers[1] for powers, factor in polys(row)[0])
                    self.assertTrue(low <= value <= high)

    def test_of_a_thing_and_what_bars_it_there_is_just_one(self):
        for seed in range(40):
            row, wish = straight_row(seed, 2, 2), random_point(seed, 2, 4)
            self.assertNotEqual(origin(row, wish) is None, hindrance(row, wish) is None)
            self.assertEqual(in_place(row)[0] == "moves", undone(row) is not None)
            self.assertEqual(extended(row)[0] == "weights", undone(row) is not None)
            self.assertEqual(comes_back(row) is not None, settles(row) is not None and settles(row)[0] == 0)

    def test_groups_and_the_longest_tuple(self):
        for seed in range(20):
            pattern = pattern_of(random_row(seed, 4, 14, 3, most=3))
            few = len(groups(pattern))
            self.assertGreater(group_count(pattern, few), 0)
            self.assertLessEqual(len(together(pattern)), few)

    def test_rates_along_chains(self):
        for seed in range(15):
            one, other = random_row(seed, 2, 9, 2, most=3), random_row(seed + 9, 2, 9, 2, most=3)
            point, weights = random_point(seed, 2, 9), random_point(seed, 2, 9)
            self.assertEqual(swept(fed(one, other), point, weights), swept(one, point, swept(other, told(one, point), weights)))


if __name__ == "__main__":
    unittest.main()
