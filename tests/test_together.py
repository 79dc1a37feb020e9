"""What the modules tell of the same rows, beside each other."""

import random
import unittest
from itertools import product
from math import gcd

from helper import random_point, random_row
from rowsback.boxes import by_rates, parted, ranges
from rowsback.clean import clean_tape, is_clean
from rowsback.fitting import beside, fed, renamed, slim
from rowsback.groups import group_count, groups, is_grouping, rates_by, together
from rowsback.holding import are_slots, best_order, is_order, is_wood, least_load, load, slots
from rowsback.keeping import extended, forgets, forgotten, kept_weights, tells_back
from rowsback.leasts import greatest, is_least_paper, least, least_paper, signs
from rowsback.lifts import endless, lifted
from rowsback.matches import blocks, cover, pairs
from rowsback.moduli import nought_count, noughts
from rowsback.moments import best_plan, least_cost, least_room, plan_cost, swept_rounds
from rowsback.patterns import fed_pattern, pattern_of, turned_pattern
from rowsback.pebbles import acts_needed, farthest, pebble_way, pebbles_needed
from rowsback.places import in_place
from rowsback.points import lifted_point, rough, smooth
from rowsback.rates import rates_at
from rowsback.reach import determinant, hinders, origin, rank, relations, undone
from rowsback.rounds import after, run_after
from rowsback.rows import long_error, needed, told
from rowsback.straight import row_of, table_of
from rowsback.tapes import moved, taken_back, tape_row
from rowsback.turned import turned


def plain(table, column=None):
    return row_of(len(table[0]), tuple(table), column or (0,) * len(table))


def random_table(seed, inputs, ends, biggest):
    return tuple(random_point(seed + 900 * end, inputs, biggest) for end in range(ends))


def through_tape(row):
    """Return the row that does the clean tape of a row on its inputs, with 0 at all other places."""
    tape = clean_tape(row)
    inputs, others = row[0], tape[0] - row[0]
    start = (inputs, tuple(("in", k) for k in range(inputs)) + (("set", 0),),
             tuple(range(inputs)) + (inputs,) * others)
    return fed(start, tape_row(tape)), tape


class TapesTest(unittest.TestCase):

    def small_rows(self, count, inputs):
        for seed in range(count):
            row = random_row(seed, inputs, 7, 2, most=4)
            if clean_tape(row)[0] <= 12:
                yield seed, row

    def test_clean_tapes_beside_ranges_and_least_values(self):
        for seed, row in self.small_rows(25, 2):
            whole, tape = through_tape(row)
            self.assertIs(is_clean(row, tape), True)
            self.assertIsNone(long_error(whole))
            box = ((seed % 4 - 3, 2), (-1, seed % 3))
            for end in range(2):
                place = tape[0] - 2 + end
                found = least(row, end, box)
                self.assertEqual([least(whole, place, box), greatest(whole, place, box), signs(whole, place, box)],
                                 [found, greatest(row, end, box), signs(row, end, box)])
                for span in (ranges(whole, box)[place], by_rates(whole, box)[place]):
                    self.assertTrue(span[0] <= found[0] <= greatest(row, end, box)[0] <= span[1])
                self.assertIs(is_least_paper(whole, place, box, least_paper(whole, place, box)), True)
            self.assertEqual([least(whole, place, box)[0] for place in range(2, tape[0] - 2)], [0] * (tape[0] - 4))

    def test_clean_tapes_beside_noughts(self):
        for seed, row in self.small_rows(25, 1):
            whole, tape = through_tape(row)
            for prime, power in ((2, 5), (3, 3)):
                there = noughts(row, 0, prime, power)
                self.assertEqual(noughts(whole, tape[0] - 2, prime, power), there)
                self.assertEqual(nought_count(whole, 0, prime, power), 1)
                for rest, depth in there:
                    filling = (rest + 5 * prime ** depth,) + (0,) * (tape[0] - 1)
                    self.assertEqual(moved(tape, filling)[-2] % prime ** power, 0)

    def test_clean_tapes_beside_groups(self):
        for seed, row in self.small_rows(25, 3):
            whole, tape = through_tape(row)
            many, lots = pattern_of(whole)
            self.assertEqual([lots[:3], lots[-2:]], [((0,), (1,), (2,)), pattern_of(row)[1]])
            grouping = groups(pattern_of(row))
            self.assertIs(is_grouping((many, lots), grouping), True)
            point = random_point(seed, 3, 50)
            self.assertEqual(rates_by(whole, grouping, point)[-2:], rates_at(row, point))

    def test_clean_tapes_beside_orders(self):
        for seed, row in self.small_rows(25, 2):
            whole, _ = through_tape(row)
            for one in (row, slim(row), slim(whole)):
                if len(needed(one)) <= 12 or is_wood(one):
                    order = best_order(one)
                    self.assertIs(is_order(one, order), True)
                    self.assertEqual(load(one, order), least_load(one))
                    self.assertIs(are_slots(one, order, slots(one, order)), True)
                    self.assertLessEqual(least_load(slim(one)), len(needed(one)))

    def test_an_order_that_is_gone_through_in_slots(self):
        """With the numbers in their slots, an order tells the ends: what is written over is of no use any more."""
        for seed in range(60):
            row = random_row(seed, 2, 9, 2, most=8)
            if len(needed(row)) > 12:
                continue
            order = best_order(row)
            slot_of = dict(zip(order, slots(row, order)))
            point, held = random_point(seed, 2, 99), {}
            for number in order:
                step = row[1][number]
                parts = [held[slot_of[k]] for k in step[1:]] if step[0] not in ("in", "set") else []
                held[slot_of[number]] = {
                    "in": lambda: point[step[1]], "set": lambda: step[1], "neg": lambda: -parts[0],
                    "+": lambda: parts[0] + parts[1], "-": lambda: parts[0] - parts[1], "*": lambda: parts[0] * parts[1],
                }[step[0]]()
            self.assertEqual(tuple(held[slot_of[end]] for end in row[2]), told(row, point))
            self.assertLessEqual(len(held), least_load(row))


class StraightTest(unittest.TestCase):

    def rows(self):
        for seed in range(90):
            inputs, ends = 1 + seed % 5, 1 + seed % 4
            table = list(random_table(seed, inputs, ends, (1, 2, 5, 10 ** 18)[seed % 4]))
            if seed % 3 == 0:
                table[0] = tuple(2 * number for number in table[-1])
            yield plain(table, random_point(seed, ends, 9))

    def test_what_is_forgotten_beside_the_rank(self):
        for row in self.rows():
            self.assertEqual(len(forgotten(row)) + rank(row), row[0])
            self.assertEqual(len(kept_weights(row)) + rank(row), row[0])

    def test_shifts_lead_from_one_origin_to_another(self):
        for seed, row in enumerate(self.rows()):
            wish = told(row, random_point(seed, row[0], 99))
            found = origin(row, wish)
            for shift in forgotten(row):
                self.assertEqual(told(row, tuple(a + b for a, b in zip(found, shift))), wish)

    def test_the_inputs_are_told_from_the_ends_and_what_is_kept(self):
        for seed, row in enumerate(self.rows()):
            table, column = table_of(row)
            weights = kept_weights(row)
            both = table + weights
            if len(both) > 8 or max(abs(number) for some in both for number in some) > 10 ** 20:
                continue
            more = row_of(row[0], both, column + (0,) * len(weights))
            self.assertEqual([forgotten(more), rank(more), tells_back(row, weights)], [(), row[0], True])
            point = random_point(seed, row[0], 10 ** 9)
            self.assertEqual(origin(more, told(more, point)), point)

    def test_rows_that_are_extended_can_be_undone_and_done_in_place(self):
        words = {"weights": 0, "barred": 0}
        for seed, row in enumerate(self.rows()):
            table, column = table_of(row)
            if len(table) > row[0]:
                continue
            word, rest = extended(row)
            words[word] += 1
            if word == "weights" and max([abs(k) for some in rest for k in some], default=0) <= 10 ** 20:
                more = row_of(row[0], table + rest, column + (0,) * len(rest))
                self.assertIn(determinant(more), (1, -1))
                back, shift = undone(more)
                point = random_point(seed, row[0], 99)
                ends = told(more, point)
                self.assertEqual(tuple(sum(a * b for a, b in zip(some, ends)) + c for some, c in zip(back, shift)), point)
                word, tape = in_place(more)
                self.assertEqual([word, moved(tape, point)], ["moves", ends])
                self.assertIs(tells_back(row, rest), True)
            elif word == "barred":
                self.check_barred(row, rest, seed)
        self.assertGreater(min(words.values()), 15)

    def check_barred(self, row, rest, seed):
        number, multipliers = rest
        table, column = table_of(row)
        total = sum(by * c for by, c in zip(multipliers, column))
        if number == 0:
            # The multipliers tell a relation of the ends.
            self.assertLess(rank(row), len(table))
            point = random_point(seed, row[0], 99)
            self.assertEqual(sum(by * end for by, end in zip(multipliers, told(row, point))), total)
            self.assertNotEqual(relations(row), ())
        else:
            # The multipliers by the number are a hindrance for each wish that the sum tells so.
            bar = tuple((by // gcd(by, number), number // gcd(by, number)) for by in multipliers)
            place = [index for index, by in enumerate(multipliers) if by % number][0]
            wish = tuple(c + (index == place) for index, c in enumerate(column))
            self.assertIs(hinders(row, wish, bar), True)
            self.assertIsNone(origin(row, wish))
        if len(table) == row[0]:
            self.assertEqual(determinant(row) % number if number else determinant(row), 0)
            self.assertEqual([undone(row), in_place(row)[0]], [None, "barred"])
        for other in range(3):
            more = table + random_table(seed + other, row[0], row[0] - len(table), 9)
            number_of_more = determinant(plain(more))
            self.assertEqual(number_of_more % number if number else number_of_more, 0)

    def test_shifts_of_fed_rows(self):
        for seed in range(30):
            one = plain(random_table(seed, 4, 2, 3))
            other = plain(random_table(seed + 5, 2, 2, 3))
            for shift in forgotten(one):
                self.assertIs(forgets(fed(one, other), shift), True)
            self.assertGreaterEqual(len(forgotten(fed(one, other))), len(forgotten(one)))
            self.assertEqual(len(forgotten(beside(one, other))), len(forgotten(one)) + len(forgotten(other)))


class PatternsTest(unittest.TestCase):

    def rows(self):
        for seed in range(60):
            yield seed, random_row(seed, 1 + seed % 5, 18, 1 + seed % 6, most=4)

    def test_pairs_and_covers_beside_the_rank_of_the_rates(self):
        for seed, row in self.rows():
            pattern = pattern_of(row)
            ends, inputs = cover(pattern)
            for other in range(2):
                rates = rates_at(row, random_point(seed + other, row[0], 20))
                self.assertLessEqual(rank(plain(rates)), len(pairs(pattern)))
                for end, some in enumerate(rates):
                    self.assertEqual([k for k, number in enumerate(some) if number and end not in ends and k not in inputs], [])

    def test_groups_beside_lots(self):
        for seed, row in self.rows():
            pattern = pattern_of(row)
            found = groups(pattern)
            widest = max([len(lot) for lot in pattern[1]])
            self.assertTrue(widest <= len(together(pattern)) <= len(found))
            self.assertEqual([group_count(pattern, number) for number in range(len(found))], [0] * len(found))
            point = random_point(seed, row[0], 20)
            self.assertEqual(rates_by(row, found, point), rates_at(row, point))

    def test_fed_patterns_have_no_more_pairs(self):
        for seed in range(40):
            many = 1 + seed % 4
            one, other = random_row(seed, 3, 14, many, most=3), random_row(seed + 60, many, 14, 3, most=3)
            here, there = pattern_of(one), pattern_of(other)
            both = len(pairs(fed_pattern(here, there)))
            self.assertLessEqual(both, min(len(pairs(here)), len(pairs(there))))
            self.assertLessEqual(len(pairs(pattern_of(fed(one, other)))), both)
            self.assertEqual(len(pairs(turned_pattern(here))), len(pairs(here)))

    def test_blocks_beside_determinants(self):
        """The determinant of the rates is the product of those of the blocks."""
        several = 0
        for seed in range(80):
            many = 1 + seed % 4
            row = random_row(seed, many, 16, many, most=4)
            found = blocks(pattern_of(row))
            several += len(found) > 1
            rates = rates_at(row, random_point(seed, many, 9))
            whole = 1
            for block in found:
                whole *= determinant(plain([tuple(rates[end][k] for k in block) for end in block]))
            self.assertEqual(determinant(plain(rates)), whole)
        self.assertGreater(several, 20)


def line_tape(spots, pebbles, by):
    """Return a tape that goes a way of pebbles for a line of steps, each told by a move, and takes back all but the last.

    The places are that of the input, a slot for each pebble, and that of the end.
    """
    end = pebbles + 1
    slot_of, moves = {0: 0}, []
    for spot in pebble_way(spots, pebbles):
        ahead, sign = slot_of[spot - 1], -1 if spot in slot_of else 1
        if sign == 1:
            slot_of[spot] = end if spot == spots else min(set(range(1, end)) - set(slot_of.values()))
        place = slot_of[spot]
        moves.append(("add", place, ahead, ahead, sign) if by == "*" else ("gain", place, ahead, -sign))
        if sign == -1:
            del slot_of[spot]
    return (end + 1, tuple(moves))


class WaysTest(unittest.TestCase):

    def line(self, spots, by):
        steps = [("in", 0)] + [("*", k, k) if by == "*" else ("neg", k) for k in range(spots)]
        return (1, tuple(steps), (spots,))

    def test_ways_are_clean_tapes_of_lines(self):
        for spots in list(range(1, 9)) + [16, 40]:
            for pebbles in (pebbles_needed(spots), pebbles_needed(spots) + 1, spots):
                tape = line_tape(spots, pebbles, "neg")
                self.assertEqual(len(tape[1]), acts_needed(spots, pebbles))
                self.assertIs(is_clean(self.line(spots, "neg"), tape), True)
                if spots <= 6:
                    self.assertIs(is_clean(self.line(spots, "*"), line_tape(spots, pebbles, "*")), True)

    def test_a_way_with_an_act_left_out_is_not_clean(self):
        places, moves = line_tape(5, 4, "neg")
        for index in range(len(moves)):
            self.assertIs(is_clean(self.line(5, "neg"), (places, moves[:index] + moves[index + 1:])), False)

    def test_ways_beside_orders_and_slots(self):
        """Gone one way only, a line needs one slot; there and back it needs more and more."""
        for spots in range(1, 40):
            row = self.line(spots, "neg")
            self.assertIs(is_wood(row), True)
            order = best_order(row)
            self.assertEqual([order, least_load(row), set(slots(row, order))], [tuple(range(spots + 1)), 1, {0}])
            self.assertGreaterEqual(pebbles_needed(spots), 1 if spots == 1 else 2)
            self.assertEqual(farthest(pebbles_needed(spots), acts_needed(spots, pebbles_needed(spots))) >= spots, True)


class RoundsTest(unittest.TestCase):

    def round_rows(self):
        for seed in range(30):
            many = 1 + seed % 3
            yield seed, row_of(many, tuple(random_point(seed + 40 * k, many, 3) for k in range(many)), random_point(seed, many, 5))

    def test_rounds_led_back_beside_turned_rows(self):
        for seed, row in self.round_rows():
            weights, point = random_point(seed, row[0], 9), random_point(seed + 1, row[0], 9)
            for rounds, room in ((1, 1), (3, 1), (5, 2), (9, 3)):
                plan = best_plan((1,) * rounds, room)
                back = swept_rounds(row, point, weights, room, plan)
                self.assertEqual(back, run_after(turned(row), weights, rounds))
                table, _ = after(row, rounds)
                self.assertEqual(back, tuple(sum(w * some[k] for w, some in zip(weights, table)) for k in range(row[0])))

    def test_what_comes_of_the_greatest_plan(self):
        costs = tuple(k * k % 7 for k in range(12))
        for room in (1, 2, 3, 5):
            plan = best_plan(costs, room)
            self.assertEqual(plan_cost(costs, room, plan), least_cost(costs, room))
            self.assertLessEqual(least_room(costs, least_cost(costs, room)), room)

    def test_shifts_that_are_forgotten_behind_rounds(self):
        for seed, row in self.round_rows():
            for shift in forgotten(row):
                point = random_point(seed, row[0], 9)
                for times in (1, 2, 5):
                    moved_on = tuple(a + b for a, b in zip(point, shift))
                    self.assertEqual(run_after(row, moved_on, times), run_after(row, point, times))

    def test_rows_in_place_again_and_again(self):
        """A tape that does a round does many rounds, and led back it undoes them."""
        row = row_of(3, ((0, 1, 0), (0, 0, 1), (1, 0, 1)), (1, -2, 0))
        word, (places, moves) = in_place(row)
        self.assertEqual(word, "moves")
        for times in range(6):
            self.assertEqual(moved((places, moves * times), (5, 6, 7)), run_after(row, (5, 6, 7), times))
            self.assertEqual(moved(taken_back((places, moves * times)), run_after(row, (5, 6, 7), times)), (5, 6, 7))


class NoughtsTest(unittest.TestCase):

    def test_lifted_points_lie_in_lots(self):
        for seed in range(30):
            row = random_row(seed, 2, 12, 1, most=5)
            for point in smooth(row, 0, 3):
                for index in (0, 1):
                    if rates_at(row, point)[0][index] % 3:
                        found = lifted_point(row, 0, 3, 5, point, index)
                        # The row along this input, with the other one at its number.
                        along = fed((1, (("in", 0), ("set", point[1 - index])), (0, 1) if index == 0 else (1, 0)), row)
                        self.assertEqual(lifted(along, 0, 3, 5, point[index]), found[index])
                        self.assertIn((found[index], 5), noughts(along, 0, 3, 5))
                        self.assertEqual(endless(along, 0, 3)[0], "lifts")

    def test_smooth_and_rough_noughts_beside_boxes(self):
        for seed in range(20):
            row = random_row(seed, 2, 10, 1, most=4)
            box = ((0, 2), (0, 2))
            there = smooth(row, 0, 3) + rough(row, 0, 3)
            self.assertEqual(sorted(there), [point for point in product(range(3), repeat=2) if told(row, point)[0] % 3 == 0])
            if 0 in signs(row, 0, box):
                self.assertNotEqual(there, ())


class BoxesTest(unittest.TestCase):

    def test_papers_of_parted_boxes_are_parts_of_papers(self):
        for seed in range(40):
            row = random_row(seed, 2, 12, 1, most=4)
            rng = random.Random(seed)
            box = tuple((low, low + rng.randint(1, 4)) for low in (rng.randint(-5, 3), rng.randint(-5, 3)))
            value, point = least(row, 0, box)
            for unknown in (0, 1):
                number = box[unknown][0]
                halves = parted(box, unknown, number)
                bounds = [least(row, 0, half) for half in halves]
                self.assertEqual(min(one for one, _ in bounds), value)
                # For the least value of both halves each half has a tree.
                trees = [least_paper(row, 0, half)[2] for half, (one, _) in zip(halves, bounds) if one == value]
                if len(trees) == 2:
                    self.assertIs(is_least_paper(row, 0, box, (value, point, ("parted", unknown, number) + tuple(trees))), True)

    def test_fed_slim_and_renamed_rows(self):
        for seed in range(30):
            inner, outer = random_row(seed, 2, 10, 2, most=3), random_row(seed + 40, 2, 10, 2, most=3)
            box = ((seed % 5 - 4, 1), (-2, seed % 3))
            both = fed(inner, outer)
            for end in range(2):
                paper = least_paper(both, end, box)
                self.assertIs(is_least_paper(slim(both), end, box, paper), True)
                self.assertEqual(ranges(slim(both), box), ranges(outer, ranges(inner, box)))
                lows = [told(outer, told(inner, point))[end] for point in product(*[range(a, b + 1) for a, b in box])]
                self.assertEqual(paper[0], min(lows))
                turned = renamed(both, 3, (2, 0))
                far = (box[1], (7, 9), box[0])
                self.assertEqual(ranges(turned, far), ranges(both, box))
                value, point = least(turned, end, far)
                self.assertEqual([value, point[1]], [paper[0], 7])

    def test_noughts_beside_signs(self):
        """Where the sign 0 is told for an input, there are noughts for all powers."""
        found = 0
        for seed in range(60):
            row = random_row(seed, 1, 10, 1, most=4)
            values = [told(row, (number,))[0] for number in range(-6, 7)]
            self.assertEqual(0 in values, 0 in signs(row, 0, ((-6, 6),)))
            if 0 in values:
                found += 1
                for prime in (2, 3, 5):
                    self.assertGreater(nought_count(row, 0, prime, 6), 0)
                    if any(values):
                        self.assertEqual(endless(row, 0, prime)[0], "lifts")
        self.assertGreater(found, 20)


if __name__ == "__main__":
    unittest.main()
