"""Clean tapes: they add the ends of a row to places and leave all other places as they were."""

from rowsback.polys import plus, unknown, widened
from rowsback.rows import needed
from rowsback.sames import polys
from rowsback.tapes import moved_polys, tape_error, taken_back


def clean_tape(row):
    """Return a tape that is clean for the row."""
    inputs, steps, ends = row
    place_of = _places_of(row)
    rooms = len([number for number in place_of if place_of[number] >= inputs])
    moves = []
    for number in place_of:
        moves.extend(_filling_moves(steps[number], place_of[number], place_of))
    places = inputs + rooms + len(ends)
    told = [("gain", inputs + rooms + index, place_of[end], 1) for index, end in enumerate(ends)]
    _, back = taken_back((places, tuple(moves)))
    return (places, tuple(moves) + tuple(told) + back)


def _places_of(row):
    """Return a dict with the place of each needed step, ascending: an input's own one, or a room."""
    inputs, steps, _ = row
    place_of = {}
    room = inputs
    for number in needed(row):
        if steps[number][0] == "in":
            place_of[number] = steps[number][1]
        else:
            place_of[number] = room
            room = room + 1
    return place_of


def _filling_moves(step, place, place_of):
    """Return the moves by which the value of the step comes into its room, where 0 is."""
    word = step[0]
    if word == "in":
        return []
    if word == "set":
        return [("more", place, step[1])]
    if word == "*":
        return [("add", place, place_of[step[1]], place_of[step[2]], 1)]
    if word == "neg":
        return [("gain", place, place_of[step[1]], -1)]
    by = 1 if word == "+" else -1
    return [("gain", place, place_of[step[1]], 1), ("gain", place, place_of[step[2]], by)]


def is_clean(row, value):
    """Return whether the value is a tape that is clean for the row."""
    inputs, _, ends = row
    many = inputs + len(ends)
    if tape_error(value) is not None or value[0] < many:
        return False
    places, moves = value
    at_inputs = [unknown(many, index) for index in range(inputs)]
    at_ends = [unknown(many, inputs + index) for index in range(len(ends))]
    rooms = [()] * (places - many)
    come = moved_polys(moves, at_inputs + rooms + at_ends, many)
    added = [widened(poly, len(ends)) for poly in polys(row)]
    wanted = [plus(one, other) for one, other in zip(at_ends, added)]
    return come == tuple(at_inputs + rooms + wanted)
