"""Whether two machines are alike, the word that parts them, and rows that show it."""

from wordscales.fracts import whole_pair_sum
from wordscales.machines import led_on, whole_step
from wordscales.making import beside, refuse_unlike, scaled_row
from wordscales.spans import Reach, Span, whole_row

MINUS_ONE = (-1, 1)


def parting(one, other):
    return compared(one, other)[0]


def alike(one, other):
    return parting(one, other) is None


def rows_for(one, other):
    told = compared(one, other)
    if told[0] is not None:
        return None
    return [[(top, 1) for top in row] for row in told[1]]


def shows(one, other, rows):
    machine = difference(one, other)
    rooms = len(machine[0])
    # A longer row would pass for its beginning.
    if any([len(row) != rooms for row in rows]):
        return False
    span = Span(rooms)
    kept = new_rows(span, rows)
    last = whole_row(machine[2])
    if any([whole_pair_sum(row, last) != 0 for row in kept]):
        return False
    return span.holds(whole_row(machine[0])) and stays_within(span, kept, machine[1])


# The machine whose weights are the one's less the other's: the two are alike where all of them are nought.
def difference(one, other):
    refuse_unlike(one, other)
    return beside(one, (other[0], other[1], scaled_row(other[2], MINUS_ONE)))


# A tuple of the parting word, or None, and the rows that the difference reaches ahead of it. The word
# is among those of the reach: a sum of multiples of rows that come to nought with last does so too.
def compared(one, other):
    machine = difference(one, other)
    last = whole_row(machine[2])
    reach = Reach(machine)
    row = reach.onward()
    while row is not None:
        if whole_pair_sum(row, last) != 0:
            return (reach.words[-1], reach.rows[:-1])
        row = reach.onward()
    return (None, reach.rows)


# Sums of multiples of rows that pass what is asked pass it too, so that these rows alone need be asked.
def new_rows(span, rows):
    kept = []
    for row in rows:
        whole = whole_row(row)
        if span.take(whole):
            kept.append(whole)
    return kept


def stays_within(span, rows, steps):
    for step in steps:
        columns = whole_step(step)[0]
        if not all([span.holds(led_on(row, columns)) for row in rows]):
            return False
    return True
