"""Straight rows done on a tape in the places of their inputs alone."""

from rowsback.kinds import is_integer, is_tuple_of
from rowsback.polys import unknown
from rowsback.reach import determinant, round_table_of, stepped
from rowsback.sames import polys
from rowsback.tapes import is_move, moved_polys, taken_back


def in_place(row):
    """Return ("moves", tape) with a tape that leads from the inputs to the ends, or ("barred", determinant)."""
    table, column = round_table_of(row)
    number = determinant(row)
    if number not in (1, -1):
        return ("barred", number)
    # The moves that make the table plain, taken back, make it.
    places, moves = taken_back((row[0], _plaining_moves(table, row[0])))
    more = [("more", place, gain) for place, gain in enumerate(column) if gain != 0]
    return ("moves", (places, moves + tuple(more)))


def _plaining_moves(table, many):
    """Return moves that make of the rows of the table those that tell the inputs themselves."""
    moves, rows = stepped(table, many)
    more = []
    for place in range(many):
        if rows[place][place] < 0:
            rows[place] = [-number for number in rows[place]]
            more.append(("turn", place))
        for index in range(place):
            by = -rows[index][place]
            if by != 0:
                rows[index] = [one + by * other for one, other in zip(rows[index], rows[place])]
                more.append(("gain", index, place, by))
    return moves + tuple(more)


def in_place_holds(row, value):
    """Return whether the value is one of the pairs that in_place may tell."""
    number = determinant(row)
    if not is_tuple_of(value, 2):
        return False
    word, rest = value
    if word == "barred":
        return number not in (1, -1) and is_integer(rest) and rest == number
    return word == "moves" and _is_tape(rest, row[0]) and _leads(row, rest[1])


def _is_tape(value, places):
    """Return whether the value is a tape of just so many places without "add", with however many moves."""
    if not is_tuple_of(value, 2) or not is_integer(value[0]) or value[0] != places or not isinstance(value[1], tuple):
        return False
    return all([is_move(move, places) and move[0] != "add" for move in value[1]])


def _leads(row, moves):
    """Return whether the moves lead from the inputs to the ends."""
    first = [unknown(row[0], index) for index in range(row[0])]
    return moved_polys(moves, first, row[0]) == polys(row)
