"""What several test files use: rows of many kinds, and any values bent at any depth."""

import random

from rowsback.bounds import MAX_NUMBER, MAX_SIZE

# Nested just 12 levels deep, in tuples and lists by turns.
DEEP = ()
for level in range(11):
    DEEP = [DEEP] if level % 2 else (DEEP,)

HUGE = 10 ** 5000

ODD = (
    None, True, False, -1, 0, 1, 2, 7, 61, MAX_NUMBER + 1, -MAX_NUMBER - 1, 10 ** 39, HUGE, -HUGE,
    "", "in", "+", "gain", "a line\nand another", (), (0,), (0, 0), (0, 0, 0), ("in", 0), ("set", 0),
    ("turn", 0), ((0, 0),), [], [0, 1], [("in", 0)], {}, {"in": 0}, {0: [None]}, ([],), ({},), DEEP,
)


def bent(value):
    """Yield odd values, and the value with each of its parts, at any depth, put otherwise."""
    yield from ODD
    if isinstance(value, tuple):
        yield list(value)
        yield value[:-1]
        yield value + (None,)
        yield value + value[-1:]
        yield {index: part for index, part in enumerate(value)}
        for index, part in enumerate(value):
            for other in bent(part):
                yield value[:index] + (other,) + value[index + 1:]


def lists_of(value):
    """Return the value with lists in the place of all tuples."""
    return [lists_of(part) for part in value] if isinstance(value, tuple) else value


def step_size(step, sizes):
    if step[0] in ("in", "set"):
        return 1
    parts = [sizes[part] for part in step[1:]]
    return sum(parts) if step[0] == "*" else max(parts)


def random_row(seed, inputs, steps, ends, most=MAX_SIZE, biggest=3):
    """Return a row (or a long one) whose steps have a size of at most most."""
    rng = random.Random(seed)
    made, sizes = [], []
    while len(made) < steps:
        word = rng.choice(("in", "set", "neg", "+", "-", "*", "*", "+"))
        if word == "in" and inputs or len(made) == 0 and inputs:
            step = ("in", rng.randrange(inputs))
        elif word in ("in", "set") or len(made) == 0:
            step = ("set", rng.randint(-biggest, biggest))
        else:
            many = 1 if word == "neg" else 2
            step = (word,) + tuple(rng.randrange(max(0, len(made) - 9), len(made)) for _ in range(many))
        size = step_size(step, sizes)
        if size <= most:
            made.append(step)
            sizes.append(size)
    return (inputs, tuple(made), tuple(rng.randrange(steps) for _ in range(ends)))


def random_point(seed, many, biggest):
    rng = random.Random(seed)
    return tuple(rng.randint(-biggest, biggest) for _ in range(many))


def put(steps, *step):
    """Put a step behind the others; return its number."""
    steps.append(step)
    return len(steps) - 1


def wide_steps():
    """Return steps in 2 inputs, and the numbers of four of them.

    The first has just 200 pairs, the second just 201, the third the 200 of
    the first again (it is the second less a step), the fourth has one pair.
    """
    steps = [("in", 0), ("in", 1), ("set", 1)]
    left = put(steps, "+", 0, 2)
    x2 = put(steps, "*", 0, 0)
    x4 = put(steps, "*", x2, x2)
    for power in (x2, x4):
        left = put(steps, "*", left, put(steps, "+", power, 2))
    right = 2
    power = 1
    for _ in range(2):
        twice = put(steps, "*", power, power)
        fourth = put(steps, "*", twice, twice)
        four = put(steps, "*", put(steps, "+", power, 2), put(steps, "+", twice, 2))
        right = put(steps, "*", right, put(steps, "+", four, fourth))
        power = put(steps, "*", fourth, power)
    full = put(steps, "*", left, right)
    x8 = put(steps, "*", x4, x4)
    more = put(steps, "+", full, x8)
    back = put(steps, "-", more, x8)
    return tuple(steps), full, more, back, x8


STEPS, FULL, MORE, BACK, NARROW = wide_steps()
JUST = (2, STEPS, (FULL,))
BEYOND = (2, STEPS, (NARROW, MORE))
TAKEN_AWAY = (2, STEPS, (BACK,))
NOT_NEEDED = (2, STEPS, (NARROW, FULL))


def chain(size):
    """Return the steps of a row in 1 input whose last one is the input to the power size, a power of two."""
    steps = [("in", 0)]
    while size > 1:
        put(steps, "*", len(steps) - 1, len(steps) - 1)
        size = size // 2
    return tuple(steps)


def full_row():
    """Return a row of as many steps, inputs and ends as may be, with each word."""
    steps = [("in", index) for index in range(8)] + [("set", 3)]
    for number in range(9, 60):
        word = ("*", "+", "-", "neg")[number % 4]
        low = number - 7 if number % 4 else number - 8
        if word == "*" and number > 20:
            low = number % 8
        steps.append((word, number - 1) if word == "neg" else (word, number - 1, low))
    return (8, tuple(steps), tuple(range(52, 60)))


def row_with(factors):
    """Return a row whose end has these factors, from that of the power 0 on."""
    steps = [("in", 0), ("set", 0)]
    top = 1
    for factor in factors[::-1]:
        steps += [("*", top, 0), ("set", factor), ("+", len(steps), len(steps) + 1)]
        top = len(steps) - 1
    return (1, tuple(steps), (top,))


def row_of_roots(roots):
    """Return a row whose end is the product of the input less each of these numbers."""
    steps = [("in", 0), ("set", 1)]
    top = 1
    for root in roots:
        steps += [("set", root), ("-", 0, len(steps)), ("*", top, len(steps) + 1)]
        top = len(steps) - 1
    return (1, tuple(steps), (top,))
