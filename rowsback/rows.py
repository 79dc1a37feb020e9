"""Rows of steps: what a row is, and what its steps come to."""

from rowsback.bounds import MAX_ENDS, MAX_INPUTS, MAX_LONG, MAX_NUMBER, MAX_SIZE, MAX_STEPS, MAX_WIDE
from rowsback.kinds import is_tuple_of, is_within

# How many numbers stand behind each word of a step.
NUMBERS = {"in": 1, "set": 1, "neg": 1, "+": 2, "-": 2, "*": 2}


def row_error(value):
    """Return None for a row, otherwise the pair that tells what is wrong first."""
    return _first_error(value, MAX_INPUTS, MAX_STEPS, MAX_ENDS)


def long_error(value):
    """Return None for a long row, otherwise the pair that tells what is wrong first."""
    return _first_error(value, MAX_WIDE, MAX_LONG, MAX_WIDE)


def _first_error(value, most_inputs, most_steps, most_ends):
    if not is_tuple_of(value, 3):
        return (None, "row")
    inputs, steps, ends = value
    if not is_within(inputs, 0, most_inputs):
        return (None, "inputs")
    if not isinstance(steps, tuple) or not 1 <= len(steps) <= most_steps:
        return (None, "steps")
    wrong = _step_error(inputs, steps)
    if wrong is not None:
        return wrong
    if not isinstance(ends, tuple) or not 1 <= len(ends) <= most_ends:
        return (None, "ends")
    if not all([is_within(end, 0, len(steps) - 1) for end in ends]):
        return (None, "ends")
    return None


def _step_error(inputs, steps):
    """Return the number of the first step that is wrong, and what is, or None."""
    reached = []
    for number, step in enumerate(steps):
        if not _is_step(step, number, inputs):
            return (number, "step")
        reached.append(_come_to(step, reached, _leaf_size, _joined_size))
        if reached[number] > MAX_SIZE:
            return (number, "size")
    return None


def _is_step(value, number, inputs):
    """Return whether the value is a step that may have this number."""
    # Only a string is looked up: other values may not serve as keys.
    if not isinstance(value, tuple) or not value or not isinstance(value[0], str):
        return False
    word = value[0]
    if word not in NUMBERS or len(value) != 1 + NUMBERS[word]:
        return False
    if word == "in":
        return is_within(value[1], 0, inputs - 1)
    if word == "set":
        return is_within(value[1], -MAX_NUMBER, MAX_NUMBER)
    return all([is_within(part, 0, number - 1) for part in value[1:]])


def is_point(row, value):
    """Return whether the value is a point of the row."""
    if not is_tuple_of(value, row[0]):
        return False
    return all([is_within(number, -MAX_NUMBER, MAX_NUMBER) for number in value])


def parts_of(step):
    """Return the numbers of the steps that stand in the step."""
    return () if step[0] in ("in", "set") else step[1:]


def reckoned(row, leaf, joined):
    """Return what all steps come to, from the first one on.

    leaf(word, number) tells it for "in" and "set", joined(word, parts) for
    the others, parts being what the steps that stand in them come to.
    """
    reached = []
    for step in row[1]:
        reached.append(_come_to(step, reached, leaf, joined))
    return tuple(reached)


def _come_to(step, reached, leaf, joined):
    """Return what a step comes to, of what those ahead of it have reached."""
    parts = parts_of(step)
    if not parts:
        return leaf(step[0], step[1])
    return joined(step[0], [reached[part] for part in parts])


def degrees(row):
    """Return the degrees of all steps."""
    return reckoned(row, _leaf_degree, _joined_size)


def sizes(row):
    """Return the sizes of all steps."""
    return reckoned(row, _leaf_size, _joined_size)


def _leaf_degree(word, _):
    return 1 if word == "in" else 0


def _leaf_size(word, number):
    return 1


def _joined_size(word, parts):
    return sum(parts) if word == "*" else max(parts)


def values(row, point):
    """Return the values of all steps at the point."""
    return reckoned(row, lambda word, number: point[number] if word == "in" else number, _joined_value)


def _joined_value(word, parts):
    if word == "neg":
        return -parts[0]
    one, other = parts
    if word == "+":
        return one + other
    if word == "-":
        return one - other
    return one * other


def told(row, point):
    """Return the values of the ends at the point."""
    reached = values(row, point)
    return tuple([reached[end] for end in row[2]])


def needed(row):
    """Return the numbers of the steps that are ends or are used by needed ones."""
    _, steps, ends = row
    wanted = {end: True for end in ends}
    for number in reversed(range(len(steps))):
        if number in wanted:
            for part in parts_of(steps[number]):
                wanted[part] = True
    return tuple(sorted(wanted))
