"""Patterns: on which inputs each end hangs."""

from rowsback.bounds import MAX_ENDS, MAX_INPUTS
from rowsback.errors import Unfit
from rowsback.kinds import is_tuple_of, is_within
from rowsback.rates import hangs


def pattern_error(value):
    """Return None for a pattern, otherwise the pair that tells what is wrong first."""
    if not is_tuple_of(value, 2):
        return (None, "pattern")
    many, lots = value
    if not is_within(many, 0, MAX_INPUTS):
        return (None, "inputs")
    if not isinstance(lots, tuple) or len(lots) > MAX_ENDS:
        return (None, "ends")
    for index, lot in enumerate(lots):
        if not is_lot(lot, many):
            return (index, "lot")
    return None


def is_lot(value, many):
    """Return whether the value is an ascending tuple of numbers below many."""
    if not isinstance(value, tuple) or not all([is_within(number, 0, many - 1) for number in value]):
        return False
    return all([low < high for low, high in zip(value, value[1:])])


def pattern_of(row):
    """Return the pattern of the row."""
    return (row[0], hangs(row))


def turned_pattern(pattern):
    """Return the pattern whose marks are those of the pattern with both numbers exchanged."""
    many, lots = pattern
    turned = [
        tuple([end for end, lot in enumerate(lots) if number in lot])
        for number in range(many)
    ]
    return (len(lots), tuple(turned))


def fed_pattern(one, other):
    """Return the pattern that has for each lot of other what stands in those lots of one."""
    many, lots = one
    if len(lots) != other[0]:
        raise Unfit()
    fed = [
        tuple([number for number in range(many) if any([number in lots[index] for index in lot])])
        for lot in other[1]
    ]
    return (many, tuple(fed))
