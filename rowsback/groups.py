"""Groupings of patterns, by which few sweeps tell all rates."""

from rowsback.bounds import MAX_BOTH
from rowsback.errors import TooGreat
from rowsback.kinds import is_tuple_of
from rowsback.patterns import is_lot, pattern_of
from rowsback.rates import forward
from rowsback.rows import told


def is_grouping(pattern, value):
    """Return whether the value is a grouping of the pattern."""
    if not _are_groups(value, pattern[0]) or sum([len(group) for group in value]) != pattern[0]:
        return False
    meeting = _meeting(pattern)
    return not any([(one, other) in meeting for group in value for one in group for other in group if one < other])


def _are_groups(value, many):
    """Return whether the value is an ascending tuple of groups of numbers below many, none of which stands twice."""
    if not isinstance(value, tuple) or not all([is_lot(group, many) and group != () for group in value]):
        return False
    if not all([low < high for low, high in zip(value, value[1:])]):
        return False
    numbers = [number for group in value for number in group]
    return len(set(numbers)) == len(numbers)


def _meeting(pattern):
    """Return a dict of all pairs of inputs that stand together in some lot, both ways about."""
    return {(one, other): True for lot in pattern[1] for one in lot for other in lot}


def groups(pattern):
    """Return, of the groupings with the fewest groups, the first one."""
    return min([(len(grouping), grouping) for grouping in _groupings(pattern)])[1]


def group_count(pattern, number):
    """Return how many groupings with just so many groups there are."""
    return len([1 for grouping in _groupings(pattern) if len(grouping) == number])


def _groupings(pattern):
    return _partings(pattern[0], _meeting(pattern), False)


def _partings(many, meeting, some_left_out):
    """Return all ways to put the numbers below many into groups of such as do not meet, perhaps with some left out."""
    found = [()]
    for number in range(many):
        found = [more for parting in found for more in _grown(parting, number, meeting, some_left_out)]
    return found


def _grown(parting, number, meeting, some_left_out):
    """Return the ways to put one more number into the groups: perhaps into none, into one of its own, into each."""
    without = [parting] if some_left_out else []
    joined = [
        parting[:index] + (group + (number,),) + parting[index + 1:]
        for index, group in enumerate(parting)
        if not any([(other, number) in meeting for other in group])
    ]
    return without + [parting + ((number,),)] + joined


def together(pattern):
    """Return, of the longest tuples of inputs of which each two stand together in some lot, the first one."""
    meeting = _meeting(pattern)
    found = [()]
    for number in range(pattern[0]):
        longer = [some + (number,) for some in found if all([(other, number) in meeting for other in some])]
        found = found + longer
    return min([(-len(some), some) for some in found])[1]


def squeezed(row, grouping, point):
    """Return for each group the rates of all ends at the point in the direction with 1 for its inputs, 0 for others."""
    # Only for TooWide(), which is raised ahead of all else.
    pattern_of(row)
    ahead = forward(row)
    return tuple([told(ahead, point + _direction(group, row[0]))[len(row[2]):] for group in grouping])


def _direction(group, many):
    return tuple([1 if number in group else 0 for number in range(many)])


def rates_by(row, grouping, point):
    """Return for each end the tuple of its rates by all inputs at the point, each taken from what squeezed returns."""
    many, lots = pattern_of(row)
    sums = squeezed(row, grouping, point)
    group_of = {number: index for index, group in enumerate(grouping) for number in group}
    return tuple([
        tuple([sums[group_of[number]][end] if number in lot else 0 for number in range(many)])
        for end, lot in enumerate(lots)
    ])


def is_both(pattern, value):
    """Return whether the value is a double grouping of the pattern."""
    if not is_tuple_of(value, 2):
        return False
    ahead, back = value
    if not _are_groups(ahead, pattern[0]) or not _are_groups(back, len(pattern[1])):
        return False
    return _tell_all(pattern, ahead, back)


def _tell_all(pattern, ahead, back):
    """Return whether each mark is told by one of the groups, those ahead of inputs, those back of ends."""
    lots = pattern[1]
    for end, lot in enumerate(lots):
        for number in lot:
            by_input = [1 for group in ahead if number in group and not any([
                other in lot for other in group if other != number
            ])]
            by_end = [1 for group in back if end in group and not any([
                number in lots[other] for other in group if other != end
            ])]
            if not by_input and not by_end:
                return False
    return True


def both_groups(pattern):
    """Return, of the double groupings with the fewest tuples in both together, the first one."""
    many, lots = pattern
    if many > MAX_BOTH or len(lots) > MAX_BOTH:
        raise TooGreat(MAX_BOTH)
    found = [
        (len(ahead) + len(back), (ahead, back))
        for ahead in _partings(many, {}, True) for back in _partings(len(lots), {}, True)
        if _tell_all(pattern, ahead, back)
    ]
    return min(found)[1]
