"""Pebbles put on a line of spots and taken away again: how few of them, and how few acts, lead to the last spot."""

from rowsback.bounds import MAX_LINE, MAX_WAYS
from rowsback.errors import TooGreat
from rowsback.kinds import is_within


def pebbles_needed(spots):
    """Return the least number of pebbles with which there is a way."""
    pebbles, reach = 1, 1
    while reach < spots:
        pebbles, reach = pebbles + 1, 2 * reach
    return pebbles


def acts_needed(spots, pebbles):
    """Return the least number of acts of a way, None if there is no way."""
    return _fewest_acts(spots, pebbles)[pebbles].get(spots)


def _fewest_acts(spots, pebbles):
    """Return for each number of pebbles from 0 to this one a dict: for each spot with a way there, its fewest acts.

    A way to a spot goes to some spot between with all pebbles, from there on
    with one less, as that one lies still, and takes it away with one less
    again, as one lies at the spot now.
    """
    fewest = [{}]
    for _ in range(pebbles):
        less = fewest[-1]
        here = {1: 1}
        for spot in range(2, spots + 1):
            counts = [here[mid] + less[mid] + less[spot - mid] for mid in _between(spot, here, less)]
            if counts:
                here[spot] = min(counts)
        fewest.append(here)
    return fewest


def _between(spot, here, less):
    """Return the spots by which a way may go to the spot, ascending."""
    return [mid for mid in range(1, spot) if mid in here and mid in less and spot - mid in less]


def pebble_way(spots, pebbles):
    """Return a way of as few acts as can be, None if there is no way."""
    fewest = _fewest_acts(spots, pebbles)
    return _way(fewest, spots, pebbles) if spots in fewest[pebbles] else None


def _way(fewest, spots, pebbles):
    if spots == 1:
        return (1,)
    here, less = fewest[pebbles], fewest[pebbles - 1]
    _, mid = min([(here[spot] + less[spot] + less[spots - spot], spot) for spot in _between(spots, here, less)])
    onward = tuple([mid + spot for spot in _way(fewest, spots - mid, pebbles - 1)])
    # Each act is taken back by the same act: a way gone from its end takes its pebble away.
    return _way(fewest, mid, pebbles) + onward + _way(fewest, mid, pebbles - 1)[::-1]


def is_way(spots, pebbles, value):
    """Return whether the value is a way with so many pebbles."""
    if not isinstance(value, tuple) or not all([is_within(spot, 1, spots) for spot in value]):
        return False
    lying = {}
    for spot in value:
        if spot > 1 and spot - 1 not in lying:
            return False
        if spot in lying:
            del lying[spot]
        else:
            lying[spot] = True
        if len(lying) > pebbles:
            return False
    return list(lying) == [spots]


def farthest(pebbles, acts):
    """Return the greatest number of spots, at most MAX_LINE, with a way of at most so many acts."""
    fewest = _fewest_acts(MAX_LINE, pebbles)[pebbles]
    return max([spots for spots, count in fewest.items() if count <= acts])


def ways_counted(spots, pebbles):
    """Return how many ways there are that have as few acts as can be."""
    if spots > MAX_WAYS:
        raise TooGreat(MAX_WAYS)
    last = 1 << (spots - 1)
    # What lies is an integer that has a bit for each spot. For each that is
    # reached just now, by how many ways; those that came earlier are left out.
    seen = {0: True}
    ways = {0: 1}
    while ways and last not in ways:
        ways = _ways_longer(ways, seen, spots, pebbles)
        for lying in ways:
            seen[lying] = True
    return ways.get(last, 0)


def _ways_longer(ways, seen, spots, pebbles):
    """Return by how many ways of one act more each is reached that was not seen yet."""
    longer = {}
    for lying, count in ways.items():
        for act in [1 << place for place in range(spots) if place == 0 or (lying >> (place - 1)) & 1 == 1]:
            grown = lying ^ act
            if grown not in seen and _pebbles_in(grown, spots) <= pebbles:
                longer[grown] = longer.get(grown, 0) + count
    return longer


def _pebbles_in(lying, spots):
    return len([1 for place in range(spots) if (lying >> place) & 1 == 1])
