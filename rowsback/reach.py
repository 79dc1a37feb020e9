"""Where the ends of straight rows can come, and how their inputs are told from their ends."""

from math import gcd

from rowsback.divisors import common_divisor
from rowsback.errors import NotRound
from rowsback.kinds import is_integer, is_tuple_of
from rowsback.straight import across, table_of, unit_rows
from rowsback.tapes import sign


def relations(row):
    """Return the reduced rows of the integers by which the sum of the ends, and one more, is 0 at each point."""
    table, column = table_of(row)
    beside = [factors + unit for factors, unit in zip(table, unit_rows(len(table)))]
    # What is behind the factors in a row without factors tells by which multipliers they fall away.
    found = [numbers[row[0]:] for numbers in _reduced(beside) if not any(numbers[:row[0]])]
    return tuple([multipliers + (-summed(multipliers, column),) for multipliers in found])


def rank(row):
    """Return how many ends there are less how many relations."""
    return len(row[2]) - len(relations(row))


def summed(some, others):
    """Return the sum of the products of the items at the same places."""
    return sum([one * other for one, other in zip(some, others)])


def _reduced(rows):
    """Return the reduced rows of which all the rows are sums of fractions.

    The rows are tuples of integers, none of which is a sum of fractions of
    the others.
    """
    held = list(rows)
    top = 0
    for place in range(len(rows[0])):
        filled = [index for index in range(top, len(held)) if held[index][place] != 0]
        if filled:
            held[top], held[filled[0]] = held[filled[0]], held[top]
            by = held[top]
            held = [numbers if index == top else _cleared(numbers, by, place) for index, numbers in enumerate(held)]
            top = top + 1
    return tuple([_least_multiple(numbers) for numbers in held])


def _cleared(numbers, by, place):
    """Return a multiple of the numbers less one of the others, with 0 at the place, as small as can be."""
    return _least_multiple([one * by[place] - other * numbers[place] for one, other in zip(numbers, by)])


def _least_multiple(numbers):
    """Return the numbers, not all 0, without a common divisor above 1, the first one other than 0 being above 0."""
    divisor = common_divisor(numbers)
    if [number for number in numbers if number != 0][0] < 0:
        divisor = -divisor
    return tuple([number // divisor for number in numbers])


def stepped(rows, width):
    """Return the pair (moves, rows) of the rows in steps, and of moves that lead there.

    In steps each row has its first item other than 0, of its first width
    ones, further behind than the row ahead, or none. The moves, "gain" and
    "swap", are those of a tape with a place for each row.
    """
    held = [list(numbers) for numbers in rows]
    moves = []
    top = 0
    for place in range(width):
        filled = _filled(held, top, place)
        while len(filled) > 1:
            least = filled[0]
            for index in filled[1:]:
                by = -(held[index][place] // held[least][place])
                held[index] = [one + by * other for one, other in zip(held[index], held[least])]
                moves.append(("gain", index, least, by))
            filled = _filled(held, top, place)
        if filled:
            if filled[0] != top:
                held[top], held[filled[0]] = held[filled[0]], held[top]
                moves.append(("swap", top, filled[0]))
            top = top + 1
    return tuple(moves), held


def _filled(held, top, place):
    """Return the indexes from top on of the rows without 0 at the place, those nearest to 0 first."""
    return [index for _, index in sorted([
        (abs(held[index][place]), index) for index in range(top, len(held)) if held[index][place] != 0
    ])]


def stepped_inputs(table, inputs):
    """Return the moves and the rows in steps that come of the inputs, one row for each.

    A row has the factors of its input in all ends, and behind them those
    by which the inputs it comes of are summed.
    """
    beside = [factors + unit for factors, unit in zip(across(table, inputs), unit_rows(inputs))]
    return stepped(beside, len(table))


def origin(row, wish):
    """Return integers as the inputs with which the ends are the wish, or None."""
    found, _ = _tried(row, wish)
    return found


def hindrance(row, wish):
    """Return a hindrance, for which no integers as the inputs lead to the wish, or None."""
    _, found = _tried(row, wish)
    return found


def _tried(row, wish):
    """Return the pair of an origin and None, or that of None and a hindrance."""
    table, column = table_of(row)
    many = len(table)
    _, rows = stepped_inputs(table, row[0])
    rest = [asked - number for asked, number in zip(wish, column)]
    found = [0] * row[0]
    ahead = []
    for place in range(many):
        if len(ahead) == len(rows) or rows[len(ahead)][place] == 0:
            if rest[place] != 0:
                return None, _barring(ahead, place, 2 * rest[place], many)
        else:
            numbers = rows[len(ahead)]
            if rest[place] % numbers[place] != 0:
                return None, _barring(ahead, place, numbers[place], many)
            by = rest[place] // numbers[place]
            rest = [one - by * other for one, other in zip(rest, numbers)]
            found = [one + by * other for one, other in zip(found, numbers[many:])]
            ahead.append((place, numbers))
    return tuple(found), None


def _barring(ahead, place, bottom, many):
    """Return so many fractions: 1 by the bottom at the place, and 0 behind it.

    ahead has a pair (place, numbers) for each row in steps ahead of this
    place: where its first item other than 0 stands, and the row. With the
    fractions its items have the sum 0.
    """
    whole = bottom
    for spot, numbers in ahead:
        whole = whole * numbers[spot]
    tops = [0] * many
    tops[place] = whole // bottom
    # All divisions leave no rest: whole has the divisors that come in the way.
    for spot, numbers in ahead[::-1]:
        tops[spot] = -summed(tops, numbers) // numbers[spot]
    return tuple([_fraction(top, whole) for top in tops])


def _fraction(top, bottom):
    divisor = gcd(top, bottom) if bottom > 0 else -gcd(top, bottom)
    return (top // divisor, bottom // divisor)


def _is_fraction(value):
    if not is_tuple_of(value, 2) or not is_integer(value[0]) or not is_integer(value[1]):
        return False
    return value[1] >= 1 and gcd(value[0], value[1]) == 1


def hinders(row, wish, value):
    """Return whether the value is a hindrance."""
    table, column = table_of(row)
    if not is_tuple_of(value, len(table)) or not all([_is_fraction(part) for part in value]):
        return False
    whole = 1
    for _, bottom in value:
        whole = whole * bottom // gcd(whole, bottom)
    tops = [top * (whole // bottom) for top, bottom in value]
    for index in range(row[0]):
        if summed(tops, [factors[index] for factors in table]) % whole != 0:
            return False
    return summed(tops, [asked - number for asked, number in zip(wish, column)]) % whole != 0


def round_table_of(row):
    """Return the pair of the table and the column of a straight row with as many ends as inputs."""
    table, column = table_of(row)
    if len(table) != row[0]:
        raise NotRound()
    return (table, column)


def determinant(row):
    """Return the determinant of the table."""
    table, _ = round_table_of(row)
    return determinant_of(table)


def determinant_of(table):
    """Return the determinant of a table of as many tuples as each of them has items."""
    many = len(table)
    moves, rows = stepped(table, many)
    number = sign((many, moves))
    for index in range(many):
        number = number * rows[index][index]
    return number


def undone(row):
    """Return the table and the column by which the inputs are told from the ends, or None."""
    table, column = round_table_of(row)
    if determinant(row) not in (1, -1):
        return None
    beside = [factors + unit for factors, unit in zip(table, unit_rows(row[0]))]
    back = tuple([numbers[row[0]:] for numbers in _reduced(beside)])
    return (back, tuple([-summed(factors, column) for factors in back]))
