"""Plans by which a round row is gone back through its moments, with some of them kept."""

from rowsback.bounds import MAX_ACTS, MAX_ROUNDS
from rowsback.errors import BadPlan, NotRound, TooGreat
from rowsback.polys import raised
from rowsback.rows import degrees, sizes, told
from rowsback.sweeps import swept

WORDS = ("go", "keep", "take", "back")


def plan_error(rounds, room, value):
    """Return None for a plan, otherwise the pair that tells what is wrong first."""
    error, _ = _followed(rounds, room, value)
    return error


def _followed(rounds, room, value):
    """Return the pair of the error of the value, None for a plan, and of the moments at hand ahead of its acts.

    Behind them stands the moment at hand behind the last act.
    """
    if not isinstance(value, tuple):
        return (None, "plan"), []
    goal, kept, moments = rounds, [0], [0]
    for index, act in enumerate(value):
        if not isinstance(act, str) or act not in WORDS:
            return (index, "act"), moments
        here = moments[-1]
        if goal == 0 or not _may_be_done(act, here, goal, kept, room):
            return (index, act), moments
        if act == "keep":
            kept.append(here)
        elif act == "back":
            goal = here
            kept = [moment for moment in kept if moment != here]
        moments.append(_next_moment(act, here, kept))
    return (None if goal == 0 else (None, "end")), moments


def _may_be_done(act, here, goal, kept, room):
    if act == "go":
        return here + 1 < goal
    if act == "keep":
        return here not in kept and len(kept) < room
    return act == "take" or here == goal - 1


def _next_moment(act, here, kept):
    """Return the moment at hand behind the act, of the one ahead of it and of what is kept."""
    if act == "go":
        return here + 1
    return max(kept) if act == "take" else here


def _moments_of(rounds, room, value):
    """Return the moments at hand ahead of the acts of a plan, and behind the last one."""
    error, moments = _followed(rounds, room, value)
    if error is not None:
        raise BadPlan(error)
    return moments


def plan_cost(costs, room, value):
    """Return what all "go" of the plan cost together."""
    return sum([many * cost for many, cost in zip(gone(len(costs), room, value), costs)])


def gone(rounds, room, value):
    """Return how often the plan goes from each moment to the next one."""
    moments = _moments_of(rounds, room, value)
    left = [moment for moment, act in zip(moments, value) if act == "go"]
    return tuple([left.count(moment) for moment in range(rounds)])


def least_cost(costs, room):
    """Return the least cost of all plans."""
    some = _room_of_use(costs, room)
    return _least_costs(costs, some)[0, len(costs), some][0]


def _room_of_use(costs, room):
    """Return the room, or how many moments there are to be kept at most, if that is less."""
    return min(room, len(costs))


def _least_costs(costs, room):
    """Return for all (low, high, some) the least cost to bring the goal from high to low, and the moment kept next.

    The moment low is at hand, and some moments may be kept from it on, itself
    with them. What comes next is to go to some moment, to keep it, and to
    bring the goal there from high; then to take low. The moment ahead of
    high need not be kept: from there the goal comes back at once.
    """
    ahead = [0]
    for cost in costs:
        ahead.append(ahead[-1] + cost)
    found = {}
    for width in range(1, len(costs) + 1):
        for low in range(len(costs) + 1 - width):
            high = low + width
            for some in range(1, room + 1):
                ways = [(ahead[high - 1] - ahead[low] + _cost(found, low, high - 1, some), high - 1)]
                if some > 1:
                    ways = ways + [
                        (ahead[mid] - ahead[low] + found[mid, high, some - 1][0] + found[low, mid, some][0], mid)
                        for mid in range(low + 1, high - 1)
                    ]
                found[low, high, some] = min(ways)
    return found


def _cost(found, low, high, some):
    return found[low, high, some][0] if low < high else 0


def best_plan(costs, room):
    """Return a plan of the least cost."""
    some = _room_of_use(costs, room)
    return _plan(_least_costs(costs, some), 0, len(costs), some)


def _plan(found, low, high, some):
    """Return the acts that bring the goal from high to low, the moment low being at hand."""
    mid = found[low, high, some][1]
    if mid == high - 1:
        first = ("go",) * (mid - low) + ("back",)
    else:
        first = ("go",) * (mid - low) + ("keep",) + _plan(found, mid, high, some - 1)
    return first + ("take",) + _plan(found, low, mid, some) if low < mid else first


def least_room(costs, most):
    """Return the least room for which the least cost is at most so much, None if there is none."""
    rounds = len(costs)
    found = _least_costs(costs, rounds)
    rooms = [room for room in range(1, rounds + 1) if found[0, rounds, room][0] <= most]
    return min(rooms, default=None)


def run_rounds(row, point, rounds):
    """Return the point behind so many rounds."""
    _must_be_round(row)
    _must_be_small(row, rounds)
    for _ in range(rounds):
        point = told(row, point)
    return point


def _must_be_round(row):
    if len(row[2]) != row[0]:
        raise NotRound()


def _must_be_small(row, rounds):
    """Raise TooGreat() if the numbers behind so many rounds could be too great."""
    all_degrees, all_sizes = degrees(row), sizes(row)
    degree = max([all_degrees[end] for end in row[2]])
    size = max([all_sizes[end] for end in row[2]])
    if raised(degree, rounds) * size > MAX_ACTS:
        raise TooGreat(MAX_ACTS)


def swept_rounds(row, point, weights, room, value):
    """Return the weights led back by the plan through all rounds."""
    _must_be_round(row)
    rounds = value.count("back") if isinstance(value, tuple) else 0
    if not 1 <= rounds <= MAX_ROUNDS:
        raise BadPlan((None, "plan"))
    moments = _moments_of(rounds, room, value)
    _must_be_small(row, rounds)
    points = {0: point}
    for act, here, there in zip(value, moments, moments[1:]):
        if act == "go":
            point = told(row, point)
        elif act == "keep":
            points[here] = point
        elif act == "take":
            point = points[there]
        else:
            weights = swept(row, point, weights)
    return weights
