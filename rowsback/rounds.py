"""Rounds of straight rows: what comes behind many of them, and when it comes again."""

from rowsback.errors import Unfit
from rowsback.reach import round_table_of, summed
from rowsback.straight import across, unit_rows

# The greatest ring that maps of at most MAX_INPUTS inputs have.
MAX_RING = 60


def after(row, times):
    """Return the map of so many rounds."""
    return _map_behind(round_table_of(row), times, None)


def gathered(row, times):
    """Return the table and the column of the sums of what is told behind 1, 2, .., times rounds."""
    one = round_table_of(row)
    inputs = row[0]
    total = (((0,) * inputs,) * inputs, (0,) * inputs)
    here = _nothing_done(inputs)
    for _ in range(times):
        here = _behind(here, one, None)
        total = (
            tuple([_sums(some, others) for some, others in zip(total[0], here[0])]),
            _sums(total[1], here[1]),
        )
    return total


def _sums(some, others):
    return tuple([one + other for one, other in zip(some, others)])


def after_rests(row, times, modulus):
    """Return the map of so many rounds, with the rests of all integers by the modulus."""
    return _map_behind(round_table_of(row), times, modulus)


def run_after(row, point, times):
    """Return what is told behind so many rounds from the point."""
    table, column = round_table_of(row)
    for _ in range(times):
        point = _sums([summed(factors, point) for factors in table], column)
    return point


def _nothing_done(inputs):
    """Return the map of 0 rounds."""
    return (unit_rows(inputs), (0,) * inputs)


def _behind(one, other, modulus):
    """Return the map of other behind one; with the rests by the modulus, if it is not None."""
    table, column = one
    turned = across(table, len(table))
    whole = [[summed(factors, some) for some in turned] for factors in other[0]]
    more = [summed(factors, column) + number for factors, number in zip(other[0], other[1])]
    return _rests((whole, more), modulus)


def _rests(one, modulus):
    """Return the map, all of tuples, with the rests by the modulus, if it is not None."""
    table, column = one
    if modulus is None:
        return (tuple([tuple(factors) for factors in table]), tuple(column))
    return (
        tuple([tuple([factor % modulus for factor in factors]) for factors in table]),
        tuple([number % modulus for number in column]),
    )


def _map_behind(one, times, modulus):
    """Return the map of so many rounds, of that of one round, with the rests by the modulus, if it is not None."""
    here = _rests(_nothing_done(len(one[1])), modulus)
    # One round, 2, 4, 8, .. rounds: those that times is made of are put behind one another.
    doubled = _rests(one, modulus)
    while times > 0:
        if times % 2 == 1:
            here = _behind(here, doubled, modulus)
        times = times // 2
        if times > 0:
            doubled = _behind(doubled, doubled, modulus)
    return here


def comes_back(row):
    """Return the least number of rounds, from 1 on, whose map is that of 0 rounds, or None."""
    found = settles(row)
    return found[1] if found is not None and found[0] == 0 else None


def settles(row):
    """Return the pair (start, ring) of the first map that comes again, and of behind how many rounds, or None."""
    one = round_table_of(row)
    inputs = row[0]
    here = _nothing_done(inputs)
    seen = {here: 0}
    for number in range(1, inputs + MAX_RING + 1):
        here = _behind(here, one, None)
        # A map that comes again stretches nothing: the factors of the inputs in
        # themselves have no sum beyond the inputs. So great numbers end this soon.
        if abs(sum([here[0][index][index] for index in range(inputs)])) > inputs:
            return None
        if here in seen:
            return (seen[here], number - seen[here])
        seen[here] = number
    return None


def alike_from(row, other):
    """Return the least number from which on both rows do alike for all numbers of rounds, or None."""
    one, second = round_table_of(row), round_table_of(other)
    inputs = row[0]
    if other[0] != inputs:
        raise Unfit()
    # Rows that do alike for two numbers on end do so for all behind: one round
    # more of one is one of other ahead. And what the rows lose, they have lost
    # behind as many rounds as there are inputs.
    here = there = _nothing_done(inputs)
    for number in range(inputs + 1):
        more, further = _behind(here, one, None), _behind(there, second, None)
        if here == there and more == further:
            return number
        here, there = more, further
    return None
