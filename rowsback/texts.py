"""Rows and polynomials as texts, and rows read from texts."""

from rowsback.errors import BadRow, BadText
from rowsback.rows import NUMBERS, long_error

# How many figures a number in a text may have.
FIGURES = 21


def row_text(row):
    """Return the text of the row."""
    inputs, steps, ends = row
    return "\n".join(head_lines(inputs, steps) + [_line("ends", ends)])


def head_lines(inputs, steps):
    """Return the text lines that tell the inputs and the steps."""
    return [_line("inputs", (inputs,))] + [_line(step[0], step[1:]) for step in steps]


def _line(word, numbers):
    return " ".join([word] + [str(number) for number in numbers])


def read_row(value):
    """Return the long row of which the value is the text."""
    if not isinstance(value, str):
        raise BadText(None)
    lines = [text.split(" ") for text in value.split("\n")]
    last = len(lines) - 1
    for index, words in enumerate(lines):
        if not _is_line(words, index, last):
            raise BadText(index)
    if len(lines) == 1:
        raise BadText(1)
    steps = [step_of(words) for words in lines[1:last]]
    row = (number_of(lines[0][1]), tuple(steps), numbers_of(lines[last][1:]))
    error = long_error(row)
    if error is not None:
        raise BadRow(error)
    return row


def _is_line(words, index, last):
    """Return whether the words are of the form of the text line with this index."""
    if 0 < index < last:
        return step_of(words) is not None
    if numbers_of(words[1:]) is None:
        return False
    if index == 0:
        return words[0] == "inputs" and len(words) == 2
    return words[0] == "ends" and len(words) > 1


def step_of(words):
    """Return the step, of whatever numbers, that the words stand for, None if they stand for none."""
    if not words or words[0] not in NUMBERS or len(words) != 1 + NUMBERS[words[0]]:
        return None
    numbers = numbers_of(words[1:])
    return None if numbers is None else (words[0],) + numbers


def numbers_of(words):
    """Return the tuple of the integers that the words stand for, None if one of them stands for none."""
    numbers = tuple([number_of(word) for word in words])
    return None if None in numbers else numbers


def number_of(word):
    """Return the integer that the word stands for, None if it stands for none."""
    figures = word[1:] if word.startswith("-") else word
    if not 1 <= len(figures) <= FIGURES or not all([sign in "0123456789" for sign in figures]):
        return None
    if figures.startswith("0") and word != "0":
        return None
    return int(word)


def poly_text(poly):
    """Return the text of the polynomial."""
    return " + ".join([_pair_text(powers, factor) for powers, factor in poly]) if poly else "0"


def _pair_text(powers, factor):
    words = [_decimal(factor)]
    for index, power in enumerate(powers):
        if power > 0:
            words.append(f"x{index}^{power}" if power > 1 else f"x{index}")
    return " ".join(words)


def _decimal(number):
    """Return the integer, of any size, in decimal."""
    # Python writes out only so many figures at once: greater numbers are written piece by piece.
    rest = abs(number)
    pieces = []
    while rest >= 10 ** 64:
        rest, low = divmod(rest, 10 ** 64)
        pieces.append(str(low).zfill(64))
    pieces.append(str(rest))
    return ("-" if number < 0 else "") + "".join(pieces[::-1])
