"""Machines made from machines: sum, product, chain, multiple, and the turned one."""

from wordscales.errors import TooMany, Unlike
from wordscales.fracts import NOUGHT, pair_sum, times
from wordscales.machines import MOST_ROOMS, column


def added(one, other):
    refuse_unlike(one, other)
    refuse_too_many(len(one[0]) + len(other[0]))
    return beside(one, other)


# The sum without a bound: two machines that are compared may have more rooms than one machine.
def beside(one, other):
    steps = [added_step(one_step, other_step) for one_step, other_step in zip(one[1], other[1])]
    return (one[0] + other[0], tuple(steps), one[2] + other[2])


def product(one, other):
    refuse_unlike(one, other)
    refuse_too_many(len(one[0]) * len(other[0]))
    steps = [product_step(one_step, other_step) for one_step, other_step in zip(one[1], other[1])]
    return (product_row(one[0], other[0]), tuple(steps), product_row(one[2], other[2]))


# A walk crosses from the one to the other where the first piece ends: behind a sign,
# within that sign's step, or ahead of all signs, in first.
def chained(one, other):
    refuse_unlike(one, other)
    refuse_too_many(len(one[0]) + len(other[0]))
    first = one[0] + crossing(one[0], one, other)
    steps = []
    for one_step, other_step in zip(one[1], other[1]):
        crossings = [crossing(row, one, other) for row in one_step]
        steps.append(joined_step(one_step, crossings, other_step))
    return (first, tuple(steps), noughts(len(one[0])) + other[2])


def scaled(machine, fraction):
    return (scaled_row(machine[0], fraction), machine[1], machine[2])


def turned(machine):
    return (machine[2], tuple([turned_step(step) for step in machine[1]]), machine[0])


def refuse_unlike(one, other):
    one_signs = len(one[1])
    other_signs = len(other[1])
    if one_signs != other_signs:
        raise Unlike(f"the one machine knows {one_signs} signs, the other {other_signs}")


def refuse_too_many(rooms):
    if rooms > MOST_ROOMS:
        raise TooMany(f"there would be {rooms} rooms, more than {MOST_ROOMS}")


def noughts(rooms):
    return (NOUGHT,) * rooms


def scaled_row(row, fraction):
    return tuple([times(number, fraction) for number in row])


def added_step(one_step, other_step):
    crossings = [noughts(len(other_step))] * len(one_step)
    return joined_step(one_step, crossings, other_step)


# No way leads back from the other's rooms into the one's.
def joined_step(one_step, crossings, other_step):
    one_rows = [row + across for row, across in zip(one_step, crossings)]
    other_rows = [noughts(len(one_step)) + row for row in other_step]
    return tuple(one_rows + other_rows)


# The numbers with which a row of the one, ended there by its last, begins the other.
def crossing(row, one, other):
    return scaled_row(other[0], pair_sum(row, one[2]))


def product_row(one_row, other_row):
    numbers = []
    for number in one_row:
        numbers.extend(scaled_row(other_row, number))
    return tuple(numbers)


def product_step(one_step, other_step):
    rows = []
    for one_row in one_step:
        rows.extend([product_row(one_row, other_row) for other_row in other_step])
    return tuple(rows)


def turned_step(step):
    return tuple([column(step, room) for room in range(len(step))])
