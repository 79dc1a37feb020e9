"""What straight rows forget, and what must be kept beside them."""

from rowsback.divisors import common_divisor
from rowsback.errors import Unfit
from rowsback.kinds import is_integer, is_tuple_of
from rowsback.reach import determinant_of, stepped_inputs, summed
from rowsback.straight import across, table_of, unit_rows
from rowsback.tapes import moved, taken_back


def forgotten(row):
    """Return a base of the shifts that the row forgets."""
    table, _ = table_of(row)
    return _forgotten_shifts(table, row[0])


def _forgotten_shifts(table, inputs):
    _, rows = stepped_inputs(table, inputs)
    many = len(table)
    # Whatever whole multiples of these rows come to 0 in all ends have none of those that do not.
    return tuple([tuple(numbers[many:]) for numbers in rows if not any(numbers[:many])])


def forgets(row, shift):
    """Return whether the row forgets the shift."""
    table, _ = table_of(row)
    return all([summed(factors, shift) == 0 for factors in table])


def kept_weights(row):
    """Return weights, as few as can be, that tell the inputs together with the ends."""
    # With a base of what is forgotten as weights, a shift that is forgotten and
    # that they do not see has the sum 0 with itself, so it has noughts alone.
    return forgotten(row)


def tells_back(row, weights):
    """Return whether no two tuples of inputs have the same ends and the same kept sums."""
    table, _ = table_of(row)
    return _forgotten_shifts(table + weights, row[0]) == ()


def extended(row):
    """Return ("weights", weights) that make the row one that can be undone, or ("barred", what bars them)."""
    table = _table_not_high(row)
    ends = len(table)
    moves, rows = stepped_inputs(table, row[0])
    for place in range(ends):
        number = abs(rows[place][place])
        if number != 1:
            return ("barred", (number, _multipliers(rows, place, ends)))
    # Taken back, the moves make of the units a table that can be undone. Its first
    # tuples come by whole multiples of those of the row, and these by theirs.
    back = taken_back((row[0], moves))
    return ("weights", tuple([moved(back, unit) for unit in unit_rows(row[0])[ends:]]))


def _table_not_high(row):
    """Return the table of a straight row with at most as many ends as inputs."""
    table, _ = table_of(row)
    if len(table) > row[0]:
        raise Unfit()
    return table


def _multipliers(rows, place, many):
    """Return so many integers for which the sum of the rows in steps has 0 at all places but this one.

    That for the place itself is 1, and those behind it are 0; the rows
    ahead of the place have 1 or -1 as their first items other than 0.
    """
    found = [0] * many
    found[place] = 1
    for spot in reversed(range(place)):
        found[spot] = -summed(found, rows[spot]) * rows[spot][spot]
    return tuple(found)


def extended_holds(row, value):
    """Return whether the value is one of the pairs that extended may tell."""
    table = _table_not_high(row)
    if not is_tuple_of(value, 2):
        return False
    word, rest = value
    if word == "weights":
        return _are_tuples(rest, row[0] - len(table), row[0]) and determinant_of(table + rest) in (1, -1)
    return word == "barred" and _bars(table, rest)


def _are_tuples(value, many, width):
    """Return whether the value is a tuple of so many tuples of so many integers."""
    return is_tuple_of(value, many) and all([_are_integers(part, width) for part in value])


def _are_integers(value, many):
    return is_tuple_of(value, many) and all([is_integer(number) for number in value])


def _bars(table, value):
    """Return whether the value is a pair (number, multipliers) for which there are no weights."""
    if not is_tuple_of(value, 2) or not is_integer(value[0]) or not _are_integers(value[1], len(table)):
        return False
    number, multipliers = value
    if number < 0 or number == 1 or common_divisor(multipliers) != 1:
        return False
    sums = [summed(multipliers, factors) for factors in across(table, len(table[0]))]
    return all([total == 0 if number == 0 else total % number == 0 for total in sums])
