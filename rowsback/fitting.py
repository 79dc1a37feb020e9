"""Rows made slim, fed with one another, put beside one another, and with other inputs."""

from rowsback.errors import TooLong, Unfit
from rowsback.rows import long_error, needed, parts_of


def slim(row):
    """Return the same row without steps that no end needs, and with each step just once."""
    inputs, steps, ends = row
    standing = {}
    number_of = {}
    for number in needed(row):
        step = _with_parts(steps[number], [number_of[part] for part in parts_of(steps[number])])
        number_of[number] = standing.setdefault(step, len(standing))
    return (inputs, tuple(standing), tuple([number_of[end] for end in ends]))


def _with_parts(step, parts):
    """Return the step with these numbers of steps in it, if there are numbers of steps in it."""
    return (step[0],) + tuple(parts) if parts else step


def fed(one, other):
    """Return the long row that reckons the ends of other with the ends of one as its inputs."""
    inputs, steps, ends = one
    if len(ends) != other[0]:
        raise Unfit()
    together = list(steps)
    number_of = []
    for step in other[1]:
        if step[0] == "in":
            number_of.append(ends[step[1]])
        else:
            number_of.append(len(together))
            together.append(_with_parts(step, [number_of[part] for part in parts_of(step)]))
    return _long_row(inputs, together, [number_of[end] for end in other[2]])


def beside(one, other):
    """Return the long row with the inputs, steps and ends of one, and behind them those of other."""
    inputs, steps, ends = one
    behind = [_moved_on(step, inputs, len(steps)) for step in other[1]]
    far_ends = [end + len(steps) for end in other[2]]
    return _long_row(inputs + other[0], list(steps) + behind, list(ends) + far_ends)


def _moved_on(step, by_inputs, by_steps):
    """Return the step of a row that stands behind so many inputs and steps."""
    if step[0] == "in":
        return ("in", step[1] + by_inputs)
    return _with_parts(step, [part + by_steps for part in parts_of(step)])


def _long_row(inputs, steps, ends):
    row = (inputs, tuple(steps), tuple(ends))
    if long_error(row) is not None:
        raise TooLong()
    return row


def renamed(row, inputs, order):
    """Return the long row with so many inputs in which order tells which one each input becomes."""
    steps = [("in", order[step[1]]) if step[0] == "in" else step for step in row[1]]
    return (inputs, tuple(steps), row[2])
