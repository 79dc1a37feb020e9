"""Shells: text lines in, text lines out, with a desk between."""

from rowsback.bounds import MAX_INPUTS
from rowsback.desks import nameless_desk
from rowsback.errors import RowError
from rowsback.kinds import is_within
from rowsback.texts import number_of, numbers_of, poly_text, step_of


def _version(number):
    return f"version {number}"


# Each action takes the desk and the words behind the first one. It returns what
# the text line tells, None if it is none of its form.


def _add(desk, words):
    step = step_of(words)
    return None if step is None else _version(desk.add(step))


def _put(desk, words):
    number = number_of(words[0]) if words else None
    step = step_of(words[1:])
    return None if number is None or step is None else _version(desk.put(number, step))


def _drop(desk, words):
    return None if words else _version(desk.drop())


def _label(desk, words):
    number = number_of(words[1]) if len(words) == 2 else None
    return None if number is None else _version(desk.label(words[0], number))


def _unlabel(desk, words):
    return _version(desk.unlabel(words[0])) if len(words) == 1 else None


def _undo(desk, words):
    if words:
        return None
    desk.undo()
    return _version(desk.version)


def _redo(desk, words):
    if words:
        return None
    desk.redo()
    return _version(desk.version)


def _row(desk, words):
    return None if words else str(desk)


def _at(desk, words):
    point = numbers_of(words)
    if point is None or len(point) != desk.inputs:
        return None
    return _parted([f"{name}:{value}" for name, value in desk.told(point)])


def _rates(desk, words):
    point = numbers_of(words[1:])
    if not words or point is None or len(point) != desk.inputs:
        return None
    return _parted([str(number) for number in desk.rates(words[0], point)])


def _parted(some):
    return " ".join(some) if some else "none"


def _poly(desk, words):
    return poly_text(desk.poly(words[0])) if len(words) == 1 else None


ACTIONS = {
    "add": _add,
    "put": _put,
    "drop": _drop,
    "label": _label,
    "unlabel": _unlabel,
    "undo": _undo,
    "redo": _redo,
    "row": _row,
    "at": _at,
    "rates": _rates,
    "poly": _poly,
}


class Shell:
    """Text lines that edit a desk and ask it."""

    def __init__(self):
        self._desk = None

    def say(self, line):
        """Return what the text line tells."""
        words = line.split(" ") if isinstance(line, str) else [""]
        if words[0] == "new":
            return self._begin(words[1:])
        if words[0] not in ACTIONS:
            return "what"
        if self._desk is None:
            return "no desk"
        action = ACTIONS[words[0]]
        try:
            told = action(self._desk, words[1:])
        except RowError as error:
            return "no " + error.__class__.__name__
        return "what" if told is None else told

    def _begin(self, words):
        inputs = number_of(words[0]) if len(words) == 1 else None
        if not is_within(inputs, 0, MAX_INPUTS):
            return "what"
        self._desk = nameless_desk(inputs)
        return "ok"
