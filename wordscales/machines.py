"""Machines (first, steps, last): their form, and the weights that they give to words."""

from wordscales.errors import NoMachine, NoSign
from wordscales.fracts import lowest, shared_bottom, tops_over, whole_pair_sum

MOST_ROOMS = 24
MOST_SIGNS = 4


def looked(machine):
    rooms = len(machine[0])
    signs = len(machine[1])
    if rooms > MOST_ROOMS:
        raise NoMachine(f"{rooms} rooms are more than {MOST_ROOMS}")
    if signs < 1 or signs > MOST_SIGNS:
        raise NoMachine(f"{signs} signs are not 1 to {MOST_SIGNS}")
    refuse_other_length(machine[2], rooms, "last")
    for step in machine[1]:
        refuse_other_length(step, rooms, "a step")
        for row in step:
            refuse_other_length(row, rooms, "a row of a step")
    return (rooms, signs)


def refuse_other_length(part, rooms, name):
    length = len(part)
    if length != rooms:
        raise NoMachine(f"{name} has {length} places for {rooms} rooms")


def weigh(machine, word):
    row = whole_row_behind(machine, word)
    last_bottom = shared_bottom(machine[2])
    top = whole_pair_sum(row[0], tops_over(machine[2], last_bottom))
    return lowest(top, row[1] * last_bottom)


def row_behind(machine, word):
    row = whole_row_behind(machine, word)
    return [lowest(top, row[1]) for top in row[0]]


# The row as a tuple (tops, bottom), one bottom for all rooms and not in lowest terms.
def whole_row_behind(machine, word):
    refuse_strange_signs(machine, word)
    bottom = shared_bottom(machine[0])
    tops = tops_over(machine[0], bottom)
    whole_steps = {}
    for sign in word:
        if sign not in whole_steps:
            whole_steps[sign] = whole_step(machine[1][sign])
        step = whole_steps[sign]
        tops = led_on(tops, step[0])
        bottom = bottom * step[1]
    return (tops, bottom)


def led_on(tops, columns):
    return [whole_pair_sum(tops, entering) for entering in columns]


# The signs are asked one by one: an index below nought would find a step.
def refuse_strange_signs(machine, word):
    signs = len(machine[1])
    for sign in word:
        if sign < 0 or sign >= signs:
            raise NoSign(f"the word has a sign beyond the {signs} that the machine knows")


# A step as a tuple (columns of tops, bottom): a row led on asks for the columns.
def whole_step(step):
    numbers = []
    for row in step:
        numbers.extend(row)
    bottom = shared_bottom(numbers)
    columns = [tops_over(column(step, room), bottom) for room in range(len(step))]
    return (columns, bottom)


def column(step, room):
    return tuple([row[room] for row in step])
