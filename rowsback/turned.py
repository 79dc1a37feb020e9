"""Plain rows turned: all arrows of their steps turned round."""

from rowsback.backward import backward
from rowsback.fitting import renamed, slim
from rowsback.rates import is_long_row_of
from rowsback.rows import degrees, needed
from rowsback.straight import across, is_plain, table_of


def turned_counts(row):
    """Return how many true sums and how many true products a row that turns the row needs at most."""
    _, steps, ends = row
    all_degrees = degrees(row)
    sums, products = 0, 0
    named = []
    for number in needed(row):
        word = steps[number][0]
        if word == "in":
            named.append(steps[number][1])
        elif word in ("+", "-"):
            sums = sums + min([all_degrees[part] for part in steps[number][1:]])
        elif word == "*":
            products = products + all_degrees[number]
    told = len([end for end in ends if all_degrees[end] == 1])
    return (sums + told - len(set(named)), products)


def turned(row):
    """Return a plain long row that turns the row."""
    inputs, _, ends = row
    # Nothing of a plain row is multiplied by what hangs on an input: so its pulls
    # hang on the weights alone, and these are the inputs of what turns it.
    return renamed(slim(backward(row)), len(ends), (0,) * inputs + tuple(range(len(ends))))


def is_turned(row, value):
    """Return whether the value is a plain long row that turns the row."""
    inputs, _, ends = row
    if not is_long_row_of(value, len(ends), inputs) or not is_plain(value):
        return False
    table, _ = table_of(row)
    return table_of(value) == (across(table, inputs), (0,) * inputs)
