"""Pairs and covers of patterns, and the blocks in which their inputs lead to one another."""

from rowsback.errors import Unfit
from rowsback.kinds import is_tuple_of
from rowsback.patterns import is_lot


def pairs(pattern):
    """Return marks, as many as can be, no two of which have the same end or the same input."""
    end_of = _paired(pattern)
    return tuple(sorted([(end, number) for number, end in end_of.items()]))


def _paired(pattern):
    """Return a dict that has, for the inputs of as many pairs as can be, their ends."""
    lots = pattern[1]
    end_of = {}
    for end in range(len(lots)):
        _pair(lots, end, {}, end_of)
    return end_of


def _pair(lots, end, tried, end_of):
    """Pair the end with an input, if need be by pairing other ends otherwise; return whether this can be done."""
    for number in lots[end]:
        if number not in tried:
            tried[number] = True
            if number not in end_of or _pair(lots, end_of[number], tried, end_of):
                end_of[number] = end
                return True
    return False


def is_pairs(pattern, value):
    """Return whether the value is any pairs of the pattern."""
    if not isinstance(value, tuple) or not all([_is_mark(pattern, mark) for mark in value]):
        return False
    if not all([low < high for low, high in zip(value, value[1:])]):
        return False
    return all([len(set([mark[place] for mark in value])) == len(value) for place in (0, 1)])


def _is_mark(pattern, value):
    lots = pattern[1]
    if not is_tuple_of(value, 2) or not is_lot(value[:1], len(lots)) or not is_lot(value[1:], pattern[0]):
        return False
    return value[1] in lots[value[0]]


def cover(pattern):
    """Return a cover with as few numbers as can be."""
    lots = pattern[1]
    end_of = _paired(pattern)
    ends, inputs = _reached(lots, end_of)
    # The ends that are not reached are all paired, with inputs that are not
    # reached; so for each pair one number is taken, and no mark is left out.
    others = [end for end in range(len(lots)) if end not in ends]
    return (tuple(others), tuple(sorted(inputs)))


def _reached(lots, end_of):
    """Return what is reached, from the ends that are in no pair, by way of marks and back by way of pairs.

    Both the ends and the inputs are dicts of True.
    """
    paired = list(end_of.values())
    waiting = [end for end in range(len(lots)) if end not in paired]
    ends, inputs = {}, {}
    while waiting:
        end = waiting.pop()
        ends[end] = True
        fresh = [number for number in lots[end] if number not in inputs]
        for number in fresh:
            inputs[number] = True
            # If it were in no pair, there could be one pair more.
            waiting.append(end_of[number])
    return ends, inputs


def is_cover(pattern, value):
    """Return whether the value is a cover of the pattern."""
    many, lots = pattern
    if not is_tuple_of(value, 2) or not is_lot(value[0], len(lots)) or not is_lot(value[1], many):
        return False
    ends, inputs = value
    return all([end in ends or number in inputs for end, lot in enumerate(lots) for number in lot])


def blocks(pattern):
    """Return the blocks, in the first order in which each stands behind those that lead to it."""
    many, lots = pattern
    if len(lots) != many:
        raise Unfit()
    # For each input all that lead to it, and itself.
    ahead = [_all_ahead(lots, number) for number in range(many)]
    left = sorted(set([
        tuple([other for other in ahead[number] if number in ahead[other]])
        for number in range(many)
    ]))
    order = []
    while left:
        done = [number for block in order for number in block]
        # Each block leads to none of those that lead to it, so one of them is always free.
        free = [block for block in left if all([other in done or other in block for other in ahead[block[0]]])]
        order.append(free[0])
        left = [block for block in left if block != free[0]]
    return tuple(order)


def _all_ahead(lots, number):
    """Return the input and all that lead to it, ascending."""
    found = {number: True}
    waiting = [number]
    while waiting:
        at = waiting.pop()
        fresh = [other for other in lots[at] if other not in found]
        for other in fresh:
            found[other] = True
            waiting.append(other)
    return tuple(sorted(found))
