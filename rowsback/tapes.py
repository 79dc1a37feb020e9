"""Tapes: moves that change the numbers at places and can be taken back."""

from rowsback.bounds import MAX_MOVES, MAX_PLACES, MAX_SIZE, MAX_TERMS
from rowsback.errors import TooLong, TooWide, Unfit
from rowsback.kinds import is_integer, is_tuple_of, is_within
from rowsback.polys import constant, plus, scaled, times, unknown
from rowsback.rows import long_error
from rowsback.sames import parted_at

# How many places stand in a move behind each word.
SPOTS = {"gain": 2, "add": 3, "swap": 2, "turn": 1, "more": 1}
# The words of the moves that have an integer as their last item.
WITH_NUMBER = ("gain", "add", "more")


def tape_error(value):
    """Return None for a tape, otherwise the pair that tells what is wrong first."""
    if not is_tuple_of(value, 2):
        return (None, "tape")
    places, moves = value
    if not is_within(places, 1, MAX_PLACES):
        return (None, "places")
    if not isinstance(moves, tuple) or len(moves) > MAX_MOVES:
        return (None, "moves")
    degrees = [1] * places
    for index, move in enumerate(moves):
        if not is_move(move, places):
            return (index, "move")
        if not _deepen(degrees, move):
            return (index, "degree")
    return None


def is_move(value, places):
    """Return whether the value is a move of a tape with so many places."""
    # Only a string is looked up: other values may not serve as keys.
    if not isinstance(value, tuple) or not value or not isinstance(value[0], str):
        return False
    word = value[0]
    if word not in SPOTS:
        return False
    spots, rest = value[1:1 + SPOTS[word]], value[1 + SPOTS[word]:]
    if len(spots) != SPOTS[word] or len(rest) != (1 if word in WITH_NUMBER else 0):
        return False
    if not all([is_within(spot, 0, places - 1) for spot in spots]):
        return False
    return spots[0] not in spots[1:] and all([is_integer(number) for number in rest])


def _deepen(degrees, move):
    """Change the degrees of the places as the move does; return whether none becomes too great."""
    word, place = move[0], move[1]
    if word == "gain":
        degrees[place] = max(degrees[place], degrees[move[2]])
    elif word == "add":
        degrees[place] = max(degrees[place], degrees[move[2]] + degrees[move[3]])
    elif word == "swap":
        degrees[place], degrees[move[2]] = degrees[move[2]], degrees[place]
    return degrees[place] <= MAX_SIZE


def moved(tape, filling):
    """Return the filling that comes when all moves are done."""
    held = list(filling)
    for move in tape[1]:
        word, place = move[0], move[1]
        if word == "swap":
            held[place], held[move[2]] = held[move[2]], held[place]
        elif word == "turn":
            held[place] = -held[place]
        else:
            held[place] = held[place] + _gained(held, move)
    return tuple(held)


def _gained(held, move):
    """Return what the place of a "gain", an "add" or a "more" gains."""
    amount = move[-1]
    for spot in move[2:-1]:
        amount = amount * held[spot]
    return amount


def taken_back(tape):
    """Return the tape that leads back."""
    places, moves = tape
    back = [_contrary(move) for move in moves[::-1]]
    degrees = [1] * places
    for move in back:
        if not _deepen(degrees, move):
            raise TooLong()
    return (places, tuple(back))


def _contrary(move):
    return move[:-1] + (-move[-1],) if move[0] in WITH_NUMBER else move


def sign(tape):
    """Return 1 if swaps and turns are an even number of moves, otherwise -1."""
    odd = len([move for move in tape[1] if move[0] in ("swap", "turn")]) % 2
    return -1 if odd else 1


def tape_polys(tape):
    """Return the polynomials of the numbers that come."""
    places, moves = tape
    return moved_polys(moves, [unknown(places, place) for place in range(places)], places)


def moved_polys(moves, first, many):
    """Return the polynomials, in so many unknowns, that come of the first ones at the places.

    Raises TooWide() if one of them has too many pairs behind some move.
    """
    held = list(first)
    for move in moves:
        word, place = move[0], move[1]
        if word == "swap":
            held[place], held[move[2]] = held[move[2]], held[place]
        elif word == "turn":
            held[place] = scaled(held[place], -1)
        else:
            held[place] = plus(held[place], _gained_poly(held, move, many))
        if len(held[place]) > MAX_TERMS:
            raise TooWide()
    return tuple(held)


def _gained_poly(held, move, many):
    """Return the polynomial of what the place of a "gain", an "add" or a "more" gains."""
    amount = constant(many, move[-1])
    for spot in move[2:-1]:
        amount = times(amount, held[spot])
    return amount


def tape_row(tape):
    """Return the long row that reckons what the tape does."""
    places, moves = tape
    steps = [("in", place) for place in range(places)]
    at = list(range(places))
    for move in moves:
        word, place = move[0], move[1]
        if word == "swap":
            at[place], at[move[2]] = at[move[2]], at[place]
        else:
            steps.extend(_steps_of(move, at, len(steps)))
            at[place] = len(steps) - 1
    row = (places, tuple(steps), tuple(at))
    if long_error(row) is not None:
        raise TooLong()
    return row


def _steps_of(move, at, number):
    """Return the steps of a move, of which the first one gets the number."""
    word, old = move[0], at[move[1]]
    if word == "turn":
        return [("neg", old)]
    if word == "more":
        return [("set", move[2]), ("+", old, number)]
    if word == "gain":
        return [("set", move[3]), ("*", at[move[2]], number), ("+", old, number + 1)]
    return [
        ("*", at[move[2]], at[move[3]]),
        ("set", move[4]),
        ("*", number, number + 1),
        ("+", old, number + 2),
    ]


def same_moved(one, other):
    """Return whether both tapes lead from each filling to the same one."""
    here, there = _both_polys(one, other)
    return here == there


def unlike_filling(one, other):
    """Return a filling from which the tapes do not lead to the same one, or None."""
    here, there = _both_polys(one, other)
    return parted_at(here, there, one[0])


def _both_polys(one, other):
    if one[0] != other[0]:
        raise Unfit()
    return tape_polys(one), tape_polys(other)
