"""Straight rows, and the tables and columns that they stand for."""

from rowsback.errors import NotStraight
from rowsback.rates import put, put_joined
from rowsback.rows import degrees
from rowsback.sames import polys


def is_straight(row):
    """Return whether no end has powers with a sum above 1."""
    return _are_straight(polys(row))


def _are_straight(some):
    return all([sum(powers) <= 1 for poly in some for powers, _ in poly])


def is_plain(row):
    """Return whether no step, needed or not, has a degree above 1."""
    return max(degrees(row)) <= 1


def table_of(row):
    """Return the pair of the table and the column of a straight row."""
    found = polys(row)
    if not _are_straight(found):
        raise NotStraight()
    factors = [{powers: factor for powers, factor in poly} for poly in found]
    units = unit_rows(row[0])
    table = tuple([tuple([some.get(powers, 0) for powers in units]) for some in factors])
    return (table, tuple([some.get((0,) * row[0], 0) for some in factors]))


def unit_rows(many):
    """Return so many tuples of as many items: the first one has 1 at the first place and 0 elsewhere, and so on."""
    return tuple([tuple([1 if place == index else 0 for place in range(many)]) for index in range(many)])


def across(table, many):
    """Return the table, of tuples of so many items, with what stood in each place (i, j) in (j, i)."""
    return tuple([tuple([factors[index] for factors in table]) for index in range(many)])


def row_of(inputs, table, column):
    """Return a plain long row with so many inputs, this table and this column."""
    steps = [("in", index) for index in range(inputs)]
    ends = [_put_end(steps, factors, number) for factors, number in zip(table, column)]
    return (inputs, tuple(steps), tuple(ends))


def _put_end(steps, factors, number):
    """Put the steps of an end behind those of all inputs; return the number of the last one."""
    end = None
    for index, factor in enumerate(factors):
        if factor != 0:
            by = put(steps, ("set", factor))
            end = put_joined(steps, "+", end, put(steps, ("*", index, by)))
    if end is None or number != 0:
        end = put_joined(steps, "+", end, put(steps, ("set", number)))
    return end
