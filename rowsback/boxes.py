"""Boxes of points, and the ranges in which the ends of a row and their rates lie there."""

from rowsback.bounds import MAX_NUMBER
from rowsback.kinds import is_tuple_of, is_within
from rowsback.rows import reckoned, told


def is_box(row, value):
    """Return whether the value is a box of the row."""
    return is_tuple_of(value, row[0]) and all([_is_range(item) for item in value])


def _is_range(value):
    if not is_tuple_of(value, 2):
        return False
    low, high = value
    return is_within(low, -MAX_NUMBER, MAX_NUMBER) and is_within(high, low, MAX_NUMBER)


def point_count(box):
    """Return how many points the box has."""
    count = 1
    for low, high in box:
        count = count * (high - low + 1)
    return count


def middle(box):
    """Return the point in the middle of the box."""
    return tuple([low + (high - low) // 2 for low, high in box])


def parted(box, unknown, number):
    """Return the two boxes that have one range up to the number, and from the next one on."""
    low, high = box[unknown]
    ahead, behind = box[:unknown], box[unknown + 1:]
    return ahead + ((low, number),) + behind, ahead + ((number + 1, high),) + behind


def _contrary(one):
    return (-one[1], -one[0])


def _sum(one, other):
    return (one[0] + other[0], one[1] + other[1])


def _difference(one, other):
    return (one[0] - other[1], one[1] - other[0])


def _product(one, other):
    products = [here * there for here in one for there in other]
    return (min(products), max(products))


def _joined_range(word, parts):
    """Return the range of a step, of those of the steps that stand in it."""
    if word == "neg":
        return _contrary(parts[0])
    one, other = parts
    if word == "+":
        return _sum(one, other)
    if word == "-":
        return _difference(one, other)
    return _product(one, other)


def ranges(row, box):
    """Return the ranges of the ends."""
    reached = reckoned(row, lambda word, number: _leaf_range(box, word, number), _joined_range)
    return tuple([reached[end] for end in row[2]])


def _leaf_range(box, word, number):
    return box[number] if word == "in" else (number, number)


def rate_ranges(row, box):
    """Return for each end the tuple of its rate ranges by all inputs."""
    many = row[0]

    def leaf(word, number):
        rates = [(1, 1) if word == "in" and index == number else (0, 0) for index in range(many)]
        return _leaf_range(box, word, number), rates

    reached = reckoned(row, leaf, _joined_rates)
    return tuple([tuple(reached[end][1]) for end in row[2]])


def _joined_rates(word, parts):
    """Return the range and the rate ranges of a step, of those of the steps that stand in it."""
    spans = [part[0] for part in parts]
    by_part = [part[1] for part in parts]
    rates = [_joined_rate(word, spans, list(by)) for by in zip(*by_part)]
    return _joined_range(word, spans), rates


def _joined_rate(word, spans, rates):
    """Return one rate range of a step, of the ranges and the rate ranges of its parts."""
    if word == "*":
        return _sum(_product(rates[0], spans[1]), _product(spans[0], rates[1]))
    return _joined_range(word, rates)


def by_rates(row, box):
    """Return for each end the range told by its value at the middle and its rate ranges."""
    center = middle(box)
    away = [(low - at, high - at) for (low, high), at in zip(box, center)]
    found = []
    for value, rates in zip(told(row, center), rate_ranges(row, box)):
        span = (value, value)
        for by, off in zip(rates, away):
            span = _sum(span, _product(by, off))
        found.append(span)
    return tuple(found)


def growth(row, box):
    """Return for each end a word for each input: how the end grows with it."""
    return tuple([tuple([_growth_word(by) for by in rates]) for rates in rate_ranges(row, box)])


def _growth_word(by):
    low, high = by
    if low == 0 and high == 0:
        return "same"
    if low >= 0:
        return "up"
    if high <= 0:
        return "down"
    return None


def corner(row, end, box):
    """Return the point of the box at which the end is least, by its growth alone, or None."""
    words = growth(row, box)[end]
    if None in words:
        return None
    return tuple([high if word == "down" else low for word, (low, high) in zip(words, box)])
