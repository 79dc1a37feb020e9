"""Rates of polynomials and of the ends of rows, and forward rows."""

from rowsback.errors import Unfit
from rowsback.polys import in_order, weighed, widened
from rowsback.rows import long_error, reckoned, told
from rowsback.sames import polys


def rate(poly, unknown):
    """Return the rate of the polynomial by the unknown with this number."""
    factors = {}
    for powers, factor in poly:
        power = powers[unknown]
        if power > 0:
            factors[powers[:unknown] + (power - 1,) + powers[unknown + 1:]] = factor * power
    return in_order(factors)


def spread(poly):
    """Return the sum over all unknowns of the unknown times the rate by it."""
    return tuple([(powers, factor * sum(powers)) for powers, factor in poly if sum(powers) > 0])


def rate_poly(row, end, unknown):
    """Return the rate of the end by the input."""
    return rate(polys(row)[end], unknown)


def second(row, end, one, other):
    """Return the rate, by the input other, of the rate of the end by the input one."""
    return rate(rate_poly(row, end, one), other)


def hangs(row):
    """Return for each end the inputs on which it hangs."""
    return tuple([_inputs_in(poly, row[0]) for poly in polys(row)])


def _inputs_in(poly, many):
    return tuple([index for index in range(many) if any([pair[0][index] > 0 for pair in poly])])


def rates_at(row, point):
    """Return for each end the tuple of its rates by all inputs at the point."""
    many = row[0]

    def leaf(word, number):
        if word == "in":
            return point[number], tuple([1 if index == number else 0 for index in range(many)])
        return number, (0,) * many

    reached = reckoned(row, leaf, _joined_rates)
    return tuple([reached[end][1] for end in row[2]])


def _joined_rates(word, parts):
    """Return the pair of the value and the rates of a step, of those of its parts."""
    one, rates = parts[0]
    if word == "neg":
        return -one, tuple([-low for low in rates])
    other, others = parts[1]
    if word == "+":
        return one + other, tuple([low + high for low, high in zip(rates, others)])
    if word == "-":
        return one - other, tuple([low - high for low, high in zip(rates, others)])
    return one * other, tuple([low * other + one * high for low, high in zip(rates, others)])


def rates_fed(row, other, point):
    """Return the rates, by the inputs of row, of the ends of other when the ends of row are its inputs."""
    if len(row[2]) != other[0]:
        raise Unfit()
    inner = rates_at(row, point)
    outer = rates_at(other, told(row, point))
    return tuple([_summed_rates(weights, inner, row[0]) for weights in outer])


def _summed_rates(weights, inner, many):
    return tuple([
        sum([weight * rates[index] for weight, rates in zip(weights, inner)])
        for index in range(many)
    ])


def forward(row):
    """Return a forward row: the ends, and behind them their rates in a direction."""
    inputs, steps, ends = row
    longer = list(steps)
    rate_of = []
    for step in steps:
        rate_of.append(_put_rate(longer, step, rate_of, inputs))
    if None in [rate_of[end] for end in ends]:
        nought = put(longer, ("set", 0))
        rate_of = [nought if number is None else number for number in rate_of]
    return (2 * inputs, tuple(longer), ends + tuple([rate_of[end] for end in ends]))


def put(steps, step):
    """Put the step behind the others and return its number."""
    steps.append(step)
    return len(steps) - 1


def _put_rate(longer, step, rate_of, inputs):
    """Put the steps for the rate of a step; return the number of the last one, None for the rate 0.

    A rate 0 has no step of its own, so that a "set" step costs none.
    """
    word = step[0]
    if word == "in":
        return put(longer, ("in", inputs + step[1]))
    if word == "set":
        return None
    one = rate_of[step[1]]
    if word == "neg":
        return None if one is None else put(longer, ("neg", one))
    other = rate_of[step[2]]
    if word == "*":
        one = None if one is None else put(longer, ("*", one, step[2]))
        other = None if other is None else put(longer, ("*", step[1], other))
        word = "+"
    return put_joined(longer, word, one, other)


def put_joined(steps, word, one, other):
    """Put the sum or the difference of two steps, either of which may be None for 0; return its number."""
    if other is None:
        return one
    if one is not None:
        return put(steps, (word, one, other))
    return other if word == "+" else put(steps, ("neg", other))


def is_forward(row, value):
    """Return whether the value is a forward row of the row."""
    inputs, _, ends = row
    if not is_long_row_of(value, 2 * inputs, 2 * len(ends)):
        return False
    reached = polys(row)
    found = polys(value)
    wanted = [widened(poly, inputs) for poly in reached]
    wanted = wanted + [weighed([rate(poly, index) for index in range(inputs)]) for poly in reached]
    return found == tuple(wanted)


def is_long_row_of(value, inputs, ends):
    """Return whether any value is a long row of so many inputs and ends."""
    return long_error(value) is None and value[0] == inputs and len(value[2]) == ends
