"""The least and the greatest values that ends have in boxes, and papers that tell that there are no lesser ones."""

from rowsback.bounds import MAX_BOX, MAX_DEEP
from rowsback.boxes import by_rates, parted, point_count, ranges
from rowsback.errors import TooGreat
from rowsback.fitting import slim
from rowsback.kinds import is_integer, is_tuple_of, is_within
from rowsback.rows import told


def least(row, end, box):
    """Return the least value of the end at a point of the box, and the first point at which it has it."""
    return min(_all_told(row, end, box))


def greatest(row, end, box):
    """Return the greatest value of the end at a point of the box, and the first point at which it has it."""
    contrary, point = min([(-value, point) for value, point in _all_told(row, end, box)])
    return (-contrary, point)


def signs(row, end, box):
    """Return the signs of the values of the end at the points of the box, ascending."""
    return tuple(sorted(set([_sign(value) for value, _ in _all_told(row, end, box)])))


def _sign(value):
    if value == 0:
        return 0
    return 1 if value > 0 else -1


def _all_told(row, end, box):
    """Return the pairs (value, point) of the end and all points of the box."""
    if point_count(box) > MAX_BOX:
        raise TooGreat(MAX_BOX)
    alone = _with_end(row, end)
    points = [()]
    for low, high in box:
        points = [point + (number,) for point in points for number in range(low, high + 1)]
    return [(told(alone, point)[0], point) for point in points]


def _with_end(row, end):
    """Return the row with this end alone, slim."""
    inputs, steps, ends = row
    return slim((inputs, steps, (ends[end],)))


def least_paper(row, end, box):
    """Return a least paper of the end and the box."""
    value, point = least(row, end, box)
    return (value, point, _tree(_with_end(row, end), box, value))


def _tree(alone, box, value):
    """Return a bound tree of the one end of the row; no point of the box has a value below this one."""
    # In a box of one point the range is the value there: "step" does in the end.
    if ranges(alone, box)[0][0] >= value:
        return "step"
    _, widest = max([(high - low, index) for index, (low, high) in enumerate(box)])
    low, high = box[widest]
    number = low + (high - low) // 2
    one, other = parted(box, widest, number)
    return ("parted", widest, number, _tree(alone, one, value), _tree(alone, other, value))


def is_least_paper(row, end, box, value):
    """Return whether the value is a least paper of the end and the box."""
    if not is_tuple_of(value, 3):
        return False
    bound, point, tree = value
    if not is_integer(bound) or not _is_in(point, box):
        return False
    alone = _with_end(row, end)
    return told(alone, point)[0] == bound and _is_tree(alone, box, bound, tree, MAX_DEEP)


def _is_in(value, box):
    """Return whether the value is a point of the box."""
    if not is_tuple_of(value, len(box)):
        return False
    return all([is_within(number, low, high) for number, (low, high) in zip(value, box)])


def _is_tree(alone, box, bound, value, deep):
    """Return whether the value is a bound tree, at most so deep, of the one end of the row."""
    if value == "step":
        return ranges(alone, box)[0][0] >= bound
    if value == "rates":
        return by_rates(alone, box)[0][0] >= bound
    if deep == 0 or not is_tuple_of(value, 5) or value[0] != "parted":
        return False
    _, unknown, number, one, other = value
    if not is_within(unknown, 0, len(box) - 1):
        return False
    low, high = box[unknown]
    if not is_within(number, low, high - 1):
        return False
    here, there = parted(box, unknown, number)
    return _is_tree(alone, here, bound, one, deep - 1) and _is_tree(alone, there, bound, other, deep - 1)
