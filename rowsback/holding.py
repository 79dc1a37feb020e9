"""In which order the steps of a row are reckoned, and how many numbers are held meanwhile."""

from rowsback.bounds import MAX_HELD
from rowsback.errors import BadPlan, TooGreat
from rowsback.kinds import is_integer, is_tuple_of, is_within
from rowsback.rows import needed, parts_of


def is_order(row, value):
    """Return whether the value is an order of the row."""
    wanted = needed(row)
    if not is_tuple_of(value, len(wanted)) or not all([is_integer(number) for number in value]):
        return False
    if tuple(sorted(value)) != wanted:
        return False
    place_of = {number: place for place, number in enumerate(value)}
    return all([place_of[part] < place_of[number] for number in value for part in parts_of(row[1][number])])


def _must_be_order(row, value):
    if not is_order(row, value):
        raise BadPlan(value)


def held(row, value):
    """Return how many steps are held behind each step of the order."""
    _must_be_order(row, value)
    return tuple([len(numbers) for numbers in _held_behind(row, value)])


def load(row, value):
    """Return the greatest number of steps held behind a step of the order."""
    return max(held(row, value))


def _held_behind(row, order):
    """Return for each step of the order the steps that are held behind it."""
    last_use = {}
    for place, number in enumerate(order):
        for part in parts_of(row[1][number]):
            last_use[part] = place
    for end in row[2]:
        last_use[end] = len(order)
    return [
        [number for number in order[:place + 1] if last_use[number] > place]
        for place in range(len(order))
    ]


def slots(row, value):
    """Return the slots that come of taking for each step of the order the least one that is free."""
    _must_be_order(row, value)
    slot_of = {}
    for number, holding in zip(value, _held_behind(row, value)):
        taken = [slot_of[other] for other in holding if other != number]
        slot_of[number] = min([slot for slot in range(len(taken) + 1) if slot not in taken])
    return tuple([slot_of[number] for number in value])


def are_slots(row, order, value):
    """Return whether the value are slots for the order, none of them above its load less 1."""
    behind = _held_behind(row, order)
    most = max([len(numbers) for numbers in behind])
    if not is_tuple_of(value, len(order)) or not all([is_within(slot, 0, most - 1) for slot in value]):
        return False
    slot_of = {number: slot for number, slot in zip(order, value)}
    return all([len(set([slot_of[number] for number in numbers])) == len(numbers) for numbers in behind])


def is_wood(row):
    """Return whether each needed step is an end that no step uses, or no end and used by just one step."""
    uses = {number: 0 for number in needed(row)}
    for end in sorted(set(row[2])):
        uses[end] = 1
    for number in needed(row):
        for part in sorted(set(parts_of(row[1][number]))):
            uses[part] = uses[part] + 1
    return all([many == 1 for many in uses.values()])


def least_load(row):
    """Return the least load of all orders."""
    most, _ = _best(row)
    return most


def best_order(row):
    """Return an order with the least load."""
    _, order = _best(row)
    return order


def _best(row):
    """Return the pair of the least load and of an order with it."""
    if is_wood(row):
        return _best_of_wood(row)
    _must_be_few(row)
    links = _links(row)
    # For each set of steps that may come first, the least load of an order of just these.
    reached = {0: (0, ())}
    for _ in needed(row):
        reached = _best_longer(links, reached)
    return list(reached.values())[0]


def _best_longer(links, reached):
    """Return the best that is reached with one step more, of what is reached."""
    longer = {}
    for done, (most, order) in reached.items():
        for number, grown, many in _next_steps(links, done):
            high = max(most, many)
            if grown not in longer or high < longer[grown][0]:
                longer[grown] = (high, order + (number,))
    return longer


def _must_be_few(row):
    if len(needed(row)) > MAX_HELD:
        raise TooGreat(MAX_HELD)


def _best_of_wood(row):
    best = {}
    for number in needed(row):
        most, order = _one_by_one(parts_of(row[1][number]), best)
        best[number] = (max(1, most), order + (number,))
    return _one_by_one(row[2], best)


def _one_by_one(tops, best):
    """Return the pair of the least load and of an order for the trees of all tops, from the greatest load down."""
    most, whole = 0, ()
    greatest_first = sorted([(-best[top][0], top) for top in sorted(set(tops))])
    for index, (_, top) in enumerate(greatest_first):
        high, order = best[top]
        most = max(most, high + index)
        whole = whole + order
    return most, whole


def _links(row):
    """Return triples (number, parts, users) of all needed steps.

    A set of steps is an integer that has a bit for each step, with the
    number of the step. parts is the set of those with which the step
    reckons, users that of those that reckon with it; an end has, as one
    more user, a step that never comes.
    """
    numbers = needed(row)
    parts = {number: _set_of(parts_of(row[1][number])) for number in numbers}
    links = []
    for number in numbers:
        users = [user for user in numbers if _is_in(parts[user], number)]
        if number in row[2]:
            users.append(len(row[1]))
        links.append((number, parts[number], _set_of(users)))
    return links


def _set_of(numbers):
    whole = 0
    for number in numbers:
        whole = whole | (1 << number)
    return whole


def _is_in(whole, number):
    return (whole >> number) & 1 == 1


def _next_steps(links, done):
    """Return for each step that may come behind the set done its number, the set with it, and how many this holds."""
    found = []
    for number, parts, _ in links:
        if not _is_in(done, number) and parts & ~done == 0:
            grown = done | (1 << number)
            holding = [one for one, _, users in links if _is_in(grown, one) and users & ~grown != 0]
            found.append((number, grown, len(holding)))
    return found


def orders_counted(row):
    """Return how many orders there are."""
    return _counted(row, MAX_HELD)


def best_counted(row):
    """Return how many orders have the least load."""
    return _counted(row, least_load(row))


def _counted(row, most):
    """Return how many orders hold at most so many steps behind each step."""
    _must_be_few(row)
    links = _links(row)
    ways = {0: 1}
    for _ in needed(row):
        ways = _longer_ways(links, ways, most)
    return sum(ways.values())


def _longer_ways(links, ways, most):
    """Return how many ways lead to each set of one step more, of those that lead to the sets."""
    longer = {}
    for done, many in ways.items():
        for _, grown, holding in _next_steps(links, done):
            if holding <= most:
                longer[grown] = longer.get(grown, 0) + many
    return longer
