import heapq
import random
import unittest

from helper import HUGE, ODD, bent, chain, lists_of, random_point, random_row
from rowsback.errors import BadPlan, NotRound, TooGreat
from rowsback.fitting import fed
from rowsback.moments import best_plan, gone, least_cost, least_room, plan_cost, plan_error, run_rounds, swept_rounds
from rowsback.rates import rates_at
from rowsback.rows import degrees, sizes, told
from rowsback.sweeps import swept

P = ("go", "back", "take", "back")
D = (1, (("in", 0), ("set", 2), ("*", 0, 1), ("set", 1), ("+", 2, 3)), (4,))
Q = (1, (("in", 0), ("*", 0, 0)), (1,))
SWAP = (2, (("in", 0), ("in", 1), ("+", 0, 1)), (1, 2))


def slow_error(rounds, room, value):
    """Return what plan_error is to return, by the rules of each act."""
    if not isinstance(value, tuple):
        return (None, "plan")
    here, goal, kept = 0, rounds, {0}
    for index, act in enumerate(value):
        if not any(type(act) is str and act == word for word in ("go", "keep", "take", "back")):
            return (index, "act")
        may = {
            "go": here + 1 < goal,
            "keep": here not in kept and len(kept) < room,
            "take": goal > 0,
            "back": here == goal - 1,
        }[act]
        if goal == 0 or not may:
            return (index, act)
        if act == "go":
            here += 1
        elif act == "keep":
            kept.add(here)
        elif act == "take":
            here = max(kept)
        else:
            goal = here
            kept.discard(here)
    return None if goal == 0 else (None, "end")


def slow_least(costs, room):
    """Return the least cost of all plans, by going through all that can be at hand, kept and the goal."""
    start = (0, (0,), len(costs))
    known, queue = {start: 0}, [(0, start)]
    while True:
        cost, at = heapq.heappop(queue)
        here, kept, goal = at
        if goal == 0:
            return cost
        there = [(0, (max(kept), kept, goal))]
        if here + 1 < goal:
            there.append((costs[here], (here + 1, kept, goal)))
        if here not in kept and len(kept) < room:
            there.append((0, (here, tuple(sorted(kept + (here,))), goal)))
        if here == goal - 1:
            there.append((0, (here, tuple(k for k in kept if k != here), here)))
        for more, other in there:
            if cost + more < known.get(other, cost + more + 1):
                known[other] = cost + more
                heapq.heappush(queue, (cost + more, other))


def random_acts(seed, many):
    rng = random.Random(seed)
    return tuple(rng.choice(("go", "go", "keep", "take", "back")) for _ in range(many))


class PlanErrorTest(unittest.TestCase):

    def test_examples(self):
        self.assertEqual([plan_error(2, 1, P), plan_error(2, 1, P[:3]), plan_error(2, 1, ("go", "back", "back")),
                          plan_error(2, 1, ("go", "keep")), plan_error(1, 1, ("back",)), plan_cost((5, 7), 1, P), gone(2, 1, P)],
                         [None, (None, "end"), (2, "back"), (1, "keep"), None, 5, (1, 0)])

    def test_no_tuples_and_empty_ones(self):
        for value in (None, "go", "", list(P), 3, {}, {"go": 1}):
            self.assertEqual(plan_error(2, 1, value), (None, "plan"))
        self.assertEqual([plan_error(1, 1, ()), plan_error(40, 40, ())], [(None, "end")] * 2)

    def test_items_that_are_no_acts(self):
        for item in (["go"], None, 0, True, "Go", "", "go ", "stay", ("go",), {"go": 1}, HUGE, "back\n"):
            self.assertEqual(plan_error(2, 1, (item,) + P), (0, "act"))
            self.assertEqual(plan_error(2, 1, P[:1] + (item, "nothing")), (1, "act"))
            self.assertEqual(plan_error(2, 1, P + (item,)), (4, "act"))

    def test_acts_behind_the_goal_0(self):
        for act in ("go", "keep", "take", "back"):
            self.assertEqual([plan_error(2, 1, P + (act,)), plan_error(1, 40, ("back", act)), plan_error(1, 1, ("back", act, "x"))],
                             [(4, act), (1, act), (1, act)])

    def test_go(self):
        self.assertEqual([plan_error(1, 1, ("go",)), plan_error(2, 1, ("go", "go")), plan_error(3, 1, ("go", "go", "go"))],
                         [(0, "go"), (1, "go"), (2, "go")])
        self.assertEqual(plan_error(3, 1, ("go", "go", "back", "go")), (3, "go"))
        self.assertEqual(plan_error(3, 1, ("go", "go", "back", "take", "go", "go")), (5, "go"))

    def test_keep(self):
        # The moment 0 is kept at first, and counts.
        self.assertEqual([plan_error(2, 2, ("keep",)), plan_error(3, 1, ("go", "keep")), plan_error(3, 2, ("go", "keep", "keep"))],
                         [(0, "keep"), (1, "keep"), (2, "keep")])
        self.assertEqual(plan_error(4, 2, ("go", "keep", "go", "keep")), (3, "keep"))
        self.assertEqual(plan_error(4, 3, ("go", "keep", "go", "keep")), (None, "end"))
        # A moment that the goal has come to is kept no more.
        self.assertEqual(plan_error(4, 2, ("go", "go", "keep", "go", "back", "take", "back", "take", "go", "keep")), (None, "end"))
        # Behind the "back" of a moment that is kept there is room again.
        self.assertIsNone(plan_error(3, 2, ("go", "keep", "go", "back", "take", "back", "take", "back")))

    def test_keep_at_the_goal(self):
        # It may be done, but from then on only "take" may be.
        start = ("go", "back", "keep")
        self.assertEqual([plan_error(2, 2, start), plan_error(2, 2, start + ("take", "take"))], [(None, "end")] * 2)
        self.assertEqual([plan_error(2, 1, start), plan_error(2, 2, start + ("keep",)), plan_error(2, 2, start + ("back",)),
                          plan_error(2, 2, start + ("go",)), plan_error(2, 2, start + ("take", "back"))],
                         [(2, "keep"), (3, "keep"), (3, "back"), (3, "go"), (4, "back")])
        self.assertEqual(plan_error(3, 2, ("go", "keep", "go", "back", "keep")), (4, "keep"))
        self.assertEqual(plan_error(3, 3, ("go", "keep", "go", "back", "keep")), (None, "end"))

    def test_take(self):
        self.assertEqual([plan_error(2, 1, ("take", "take") + P), plan_error(2, 1, ("go", "take") + P)], [None, None])
        # The greatest moment that is kept is taken.
        self.assertEqual(plan_error(4, 3, ("go", "keep", "go", "keep", "take", "go", "back")), (None, "end"))
        self.assertEqual(plan_error(4, 2, ("go", "keep", "go", "take", "go", "go", "back")), (None, "end"))
        self.assertEqual(plan_error(4, 2, ("go", "keep", "go", "take", "go", "back")), (5, "back"))

    def test_back(self):
        self.assertEqual([plan_error(2, 1, ("back",)), plan_error(3, 1, ("go", "back")), plan_error(2, 1, ("go", "back", "back"))],
                         [(0, "back"), (1, "back"), (2, "back")])

    def test_random_acts(self):
        kinds = {}
        for seed in range(4000):
            rounds, room = 1 + seed % 4, 1 + seed % 3
            value = random_acts(seed, 1 + seed % 9)
            error = plan_error(rounds, room, value)
            self.assertEqual(error, slow_error(rounds, room, value))
            kinds[None if error is None else error[1]] = True
        self.assertEqual(set(kinds), {None, "end", "go", "keep", "take", "back"})

    def test_bent_plans(self):
        for rounds, room in ((2, 1), (4, 2), (5, 5)):
            for value in bent(best_plan((1,) * rounds, room)):
                self.assertEqual(plan_error(rounds, room, value), slow_error(rounds, room, value))
        for value in ODD:
            self.assertEqual(plan_error(3, 2, value), (None, "end") if value == () and type(value) is tuple
                             else slow_error(3, 2, value))
        self.assertEqual(plan_error(2, 1, lists_of(P)), (None, "plan"))


class CostTest(unittest.TestCase):

    def test_how_often_a_plan_goes(self):
        self.assertEqual(gone(3, 1, ("go", "go", "back", "take", "go", "back", "take", "back")), (2, 1, 0))
        self.assertEqual(gone(2, 1, ("go", "take", "take") + P), (2, 0))
        self.assertEqual([gone(1, 1, ("back",)), gone(1, 1, ("take", "back"))], [(0,), (0,)])
        self.assertEqual(plan_cost((5, 70, 900), 1, ("go", "go", "back", "take", "go", "back", "take", "back")), 80)

    def test_cost_is_how_often_times_the_costs(self):
        for seed in range(60):
            rng = random.Random(seed)
            costs = tuple(rng.randint(0, 10 ** (seed % 21)) for _ in range(1 + seed % 9))
            plan = best_plan(costs, 1 + seed % 4)
            many = gone(len(costs), 1 + seed % 4, plan)
            self.assertEqual([len(many), type(many)], [len(costs), tuple])
            self.assertEqual(plan_cost(costs, 1 + seed % 4, plan), sum(a * b for a, b in zip(many, costs)))
            self.assertEqual(sum(many), plan.count("go"))

    def test_bad_plans(self):
        for value, error in ((None, (None, "plan")), ((), (None, "end")), (("go", "go"), (1, "go")), (("go", 7), (1, "act")),
                             (P + ("take",), (4, "take")), (list(P), (None, "plan")), (P[:3], (None, "end"))):
            for call in (lambda: plan_cost((5, 7), 1, value), lambda: gone(2, 1, value)):
                with self.assertRaises(BadPlan) as caught:
                    call()
                self.assertEqual(caught.exception.error, error)
        with self.assertRaises(BadPlan) as caught:
            plan_cost((5, 7, 9), 1, P)
        self.assertEqual(caught.exception.error, (1, "back"))


class LeastCostTest(unittest.TestCase):

    def check(self, costs, room):
        plan = best_plan(costs, room)
        self.assertIsNone(plan_error(len(costs), room, plan))
        self.assertIsNone(slow_error(len(costs), room, plan))
        found = least_cost(costs, room)
        self.assertEqual([plan_cost(costs, room, plan), type(plan), type(found)], [found, tuple, int])
        self.assertEqual([least_cost(costs, room), best_plan(costs, room)], [found, plan])
        return found

    def test_examples(self):
        self.assertEqual([least_cost((1, 1, 1, 1), 1), least_cost((1, 1, 1, 1), 2), least_cost((1, 1, 1, 1), 3),
                          least_room((1, 1, 1, 1), 4), least_room((1, 1, 1, 1), 2)], [6, 4, 3, 2, None])

    def test_by_going_through_all(self):
        for seed in range(150):
            rng = random.Random(seed)
            costs = tuple(rng.choice((0, 1, 1, 2, 5, 9, 10 ** 20)) for _ in range(1 + seed % 6))
            room = 1 + seed % 5
            self.assertEqual(self.check(costs, room), slow_least(costs, room))

    def test_costs_all_nought_and_all_alike(self):
        for rounds in (1, 2, 3, 7, 20):
            for room in (1, 2, 5, 40):
                self.assertEqual(self.check((0,) * rounds, room), 0)
                ones = self.check((1,) * rounds, room)
                self.assertEqual(self.check((10 ** 20,) * rounds, room), 10 ** 20 * ones)

    def test_one_room_and_room_for_all(self):
        for rounds in (1, 2, 3, 10, 20):
            self.assertEqual(self.check((1,) * rounds, 1), rounds * (rounds - 1) // 2)
            costs = tuple(range(7, 7 + rounds))
            for room in {max(1, rounds - 1), rounds, 40}:
                self.assertEqual(self.check(costs, room), sum(costs[:-1]))

    def test_the_last_cost_is_never_paid(self):
        self.assertEqual([self.check((3, 10 ** 20), 1), self.check((10 ** 20,), 1), self.check((1, 1, 10 ** 20), 1)], [3, 0, 3])

    def test_unlike_costs(self):
        # The dear steps are gone once, if the moment behind them can be kept.
        self.assertEqual([self.check((100, 1, 1, 1), room) for room in (1, 2, 3)], [303, 103, 102])
        self.assertEqual(self.check((1, 1, 100, 1, 1), 2), slow_least((1, 1, 100, 1, 1), 2))

    def test_known_costs_for_all_alike(self):
        # With one room more, so many times as many rounds are gone at most t times each.
        self.assertEqual([self.check((1,) * 10, room) for room in (1, 2, 3, 4, 5, 9)],
                         [slow_least((1,) * 10, room) for room in (1, 2, 3, 4, 5, 9)])

    def test_great_plans(self):
        rng = random.Random(4)
        costs = tuple(rng.randint(0, 10 ** 20) for _ in range(40))
        found = [self.check(costs, room) for room in (1, 2, 3, 6, 40)]
        self.assertEqual(found, sorted(found, reverse=True))
        self.assertEqual(found[-1], sum(costs[:-1]))
        self.assertEqual(found[0], sum(cost * (39 - index) for index, cost in enumerate(costs)))


class LeastRoomTest(unittest.TestCase):

    def test_by_trying_all_rooms(self):
        for seed in range(40):
            rng = random.Random(seed)
            costs = tuple(rng.choice((0, 1, 3, 8)) for _ in range(1 + seed % 8))
            for most in (0, 1, 3, 5, 9, 14, 20, 40, 10 ** 30):
                wanted = [room for room in range(1, 41) if least_cost(costs, room) <= most]
                self.assertEqual(least_room(costs, most), min(wanted, default=None))

    def test_edges(self):
        self.assertEqual([least_room((10 ** 20,), 0), least_room((1, 5), 0), least_room((1, 5), 1), least_room((0, 0, 7), 0)],
                         [1, None, 1, 1])
        self.assertEqual([least_room((1,) * 40, most) for most in (38, 39, 40, 779, 780, 10 ** 30)], [None, 39, 38, 2, 1, 1])


class RunRoundsTest(unittest.TestCase):

    def test_examples(self):
        self.assertEqual([run_rounds(D, (5,), 2), swept_rounds(D, (5,), (1,), 1, P), run_rounds(Q, (3,), 3),
                          swept_rounds(Q, (3,), (1,), 1, P)], [(23,), (4,), (6561,), (108,)])
        with self.assertRaises(TooGreat) as caught:
            run_rounds(Q, (3,), 10)
        self.assertEqual(caught.exception.limit, 1000)

    def test_no_rounds(self):
        for row, point in ((D, (5,)), (Q, (-3,)), (SWAP, (10 ** 20, 7))):
            self.assertEqual([run_rounds(row, point, 0), run_rounds(row, point, 1)], [point, told(row, point)])

    def test_rounds_are_fed_rows(self):
        for seed in range(30):
            many = 1 + seed % 3
            row = random_row(seed, many, 10, many, most=3)
            point = random_point(seed, many, 9)
            whole = row
            for rounds in range(1, 4):
                self.assertEqual(run_rounds(row, point, rounds), told(whole, point))
                whole = fed(row, whole) if len(whole[1]) < 300 and max(sizes(whole)) < 20 else whole
                if len(whole[1]) == len(row[1]) * rounds:
                    break

    def test_forty_rounds(self):
        self.assertEqual(run_rounds(SWAP, (0, 1), 40), (102334155, 165580141))
        self.assertEqual(run_rounds(D, (0,), 40), (2 ** 40 - 1,))

    def test_not_round_ahead_of_all_else(self):
        for row in ((1, Q[1], (1, 1)), (2, SWAP[1], (2,)), (0, (("set", 1),), (0,)), (1, chain(64), (6, 6))):
            with self.assertRaises(NotRound):
                run_rounds(row, (3,) * row[0], 40)
            for value in (None, P, (), ("back",) * 41):
                with self.assertRaises(NotRound):
                    swept_rounds(row, (3,) * row[0], (1,) * len(row[2]), 1, value)

    def with_size(self, degree, size):
        """Return a row of one input whose end has this degree and this size."""
        steps = [("in", 0), ("set", 1)]
        top = 0
        for number in range(size - 1):
            steps.append(("*", top, 0 if number < degree - 1 else 1))
            top = len(steps) - 1
        row = (1, tuple(steps), (top,))
        self.assertEqual([degrees(row)[top], sizes(row)[top]], [degree, size])
        return row

    def test_just_as_great_as_may_be_and_one_above(self):
        for degree, size, rounds, right in ((1, 40, 40, True), (2, 2, 8, True), (2, 2, 9, False), (5, 8, 3, True), (5, 9, 3, False),
                                            (10, 10, 2, True), (10, 11, 2, False), (31, 32, 1, True), (32, 32, 1, False), (31, 33, 1, False),
                                            (3, 12, 4, True), (3, 13, 4, False), (3, 4, 5, True), (3, 5, 5, False), (6, 27, 2, True)):
            row = self.with_size(degree, size)
            self.assertEqual(degree ** rounds * size <= 1000, right)
            plan = best_plan((1,) * rounds, 5)
            if right:
                self.assertEqual([run_rounds(row, (1,), rounds), swept_rounds(row, (1,), (1,), 5, plan)],
                                 [(1,), (degree ** rounds,)])
            else:
                for call in (lambda: run_rounds(row, (1,), rounds), lambda: swept_rounds(row, (1,), (1,), 5, plan)):
                    with self.assertRaises(TooGreat) as caught:
                        call()
                    self.assertEqual(caught.exception.limit, 1000)

    def test_degrees_of_nought_and_one(self):
        flat = (1, (("set", 2),) + tuple(("*", k, 0) for k in range(50)), (50,))
        self.assertEqual([degrees(flat)[50], sizes(flat)[50]], [0, 51])
        self.assertEqual([run_rounds(flat, (9,), rounds) for rounds in (0, 1, 40)], [(9,), (2 ** 51,), (2 ** 51,)])
        self.assertEqual(swept_rounds(flat, (9,), (5,), 1, P), (0,))
        self.assertEqual(run_rounds(flat[:1] + (flat[1] + (("in", 0),), (51,)), (9,), 40), (9,))

    def test_the_greatest_of_all_ends_counts(self):
        # The degree of one end and the size of another one.
        steps = (("in", 0), ("in", 1), ("*", 0, 0), ("set", 1)) + tuple(("*", 3 + k, 3) for k in range(30))
        row = (2, steps, (2, 33))
        self.assertEqual([degrees(row)[2], sizes(row)[33]], [2, 31])
        self.assertEqual(run_rounds(row, (1, 7), 5), (1, 1))
        with self.assertRaises(TooGreat):
            run_rounds(row, (1, 7), 6)
        # Steps that are no ends do not count.
        self.assertEqual(run_rounds((2, steps + (("*", 2, 2),), (0, 1)), (3, 7), 40), (3, 7))


class SweptRoundsTest(unittest.TestCase):

    def pulls(self, row, point, weights, rounds):
        points = [point]
        for _ in range(rounds - 1):
            points.append(told(row, points[-1]))
        for at in points[::-1]:
            weights = swept(row, at, weights)
        return weights

    def test_all_plans_lead_to_the_same(self):
        for seed in range(40):
            many = 1 + seed % 3
            row = random_row(seed, many, 10, many, most=3)
            top = max(degrees(row)[end] for end in row[2])
            rounds = 1 + seed % 4
            if top ** rounds * max(sizes(row)[end] for end in row[2]) > 1000:
                continue
            point, weights = random_point(seed, many, 9), random_point(seed + 1, many, 10 ** 20)
            wanted = self.pulls(row, point, weights, rounds)
            for room in (1, 2, 3, 40):
                plan = best_plan((1,) * rounds, room)
                found = swept_rounds(row, point, weights, room, plan)
                self.assertEqual([found, type(found)], [wanted, tuple])
                self.assertEqual(swept_rounds(row, point, weights, room, ("take", "take") + plan), wanted)

    def test_beside_sweeps_through_fed_rows(self):
        for seed in range(30):
            many = 1 + seed % 3
            row = random_row(seed, many, 8, many, most=2)
            point, weights = random_point(seed, many, 9), random_point(seed + 1, many, 99)
            whole = fed(row, row)
            self.assertEqual(swept_rounds(row, point, weights, 1, P), swept(whole, point, weights))
            rates = rates_at(whole, point)
            self.assertEqual(swept_rounds(row, point, weights, 1, P),
                             tuple(sum(w * some[k] for w, some in zip(weights, rates)) for k in range(many)))

    def test_plans_of_one_round_and_of_forty(self):
        self.assertEqual(swept_rounds(SWAP, (3, 4), (5, 6), 1, ("back",)), (6, 11))
        for room in (1, 4, 40):
            self.assertEqual(swept_rounds(SWAP, (3, 4), (0, 1), room, best_plan((1,) * 40, room)), (102334155, 165580141))

    def test_great_weights_and_points(self):
        big = 10 ** 20
        self.assertEqual(swept_rounds(D, (big,), (-big,), 1, P), (-4 * big,))
        self.assertEqual(swept_rounds(Q, (big,), (big,), 1, P), (4 * big ** 4,))
        self.assertEqual(swept_rounds(Q, (-big,), (0,), 1, P), (0,))

    def test_bad_plans(self):
        for value, error in ((None, (None, "plan")), ((), (None, "plan")), (("go",), (None, "plan")), (("back",) * 41, (None, "plan")),
                             (list(P), (None, "plan")), ("back", (None, "plan")), (("back",) * 2, (0, "back")), (P[:3], (0, "go")),
                             (P + ("keep",), (4, "keep")), (("keep",) + P, (0, "keep")), (("go", "back", "back"), (2, "back")),
                             (("go", None, "back"), (0, "go")), ((None, "back"), (0, "act")), (("back", "go"), (1, "go")),
                             (best_plan((1,) * 40, 9) + ("back",), (None, "plan"))):
            for row in (D, Q):
                with self.assertRaises(BadPlan) as caught:
                    swept_rounds(row, (5,), (1,), 1, value)
                self.assertEqual(caught.exception.error, error, value)

    def test_room_that_is_too_small(self):
        plan = best_plan((1,) * 5, 3)
        self.assertEqual(swept_rounds(D, (5,), (1,), 3, plan), (32,))
        with self.assertRaises(BadPlan) as caught:
            swept_rounds(D, (5,), (1,), 1, plan)
        self.assertEqual(caught.exception.error, plan_error(5, 1, plan))
        self.assertEqual(caught.exception.error[1], "keep")

    def test_bad_plan_ahead_of_too_great(self):
        plan = best_plan((1,) * 10, 4)
        with self.assertRaises(TooGreat):
            swept_rounds(Q, (3,), (1,), 4, plan)
        for value in (plan[:-1], plan + ("go",), plan[1:], ("back",) * 41, None):
            with self.assertRaises(BadPlan):
                swept_rounds(Q, (3,), (1,), 4, value)

    def test_odd_values(self):
        for value in ODD:
            with self.assertRaises(BadPlan) as caught:
                swept_rounds(D, (5,), (1,), 2, value)
            self.assertEqual(caught.exception.error, (None, "plan"))
        for value in bent(P):
            if isinstance(value, tuple) and 1 <= value.count("back") <= 40:
                error = slow_error(value.count("back"), 1, value)
                if error is None:
                    swept_rounds(D, (5,), (1,), 1, value)
                else:
                    with self.assertRaises(BadPlan) as caught:
                        swept_rounds(D, (5,), (1,), 1, value)
                    self.assertEqual(caught.exception.error, error)


class AllTest(unittest.TestCase):

    def test_nothing_that_is_passed_is_changed_and_equal_calls_tell_the_same(self):
        value = list(P)
        plan_error(2, 1, value)
        self.assertEqual(value, list(P))
        costs = (5, 7, 1, 8)
        before = repr((costs, D, P))
        for call in (lambda: best_plan(costs, 2), lambda: least_cost(costs, 2), lambda: least_room(costs, 30),
                     lambda: run_rounds(D, (5,), 9), lambda: swept_rounds(D, (5,), (1,), 1, P), lambda: gone(2, 1, P)):
            self.assertEqual(call(), call())
        self.assertEqual(repr((costs, D, P)), before)

    def test_arguments_by_name(self):
        self.assertEqual([plan_error(value=P, room=1, rounds=2), plan_cost(value=P, room=1, costs=(5, 7)), gone(value=P, room=1, rounds=2)],
                         [None, 5, (1, 0)])
        self.assertEqual([least_cost(room=1, costs=(1, 1, 1, 1)), best_plan(room=1, costs=(1,)), least_room(most=4, costs=(1, 1, 1, 1))],
                         [6, ("back",), 2])
        self.assertEqual([run_rounds(rounds=2, point=(5,), row=D), swept_rounds(value=P, room=1, weights=(1,), point=(5,), row=D)],
                         [(23,), (4,)])


if __name__ == "__main__":
    unittest.main()
