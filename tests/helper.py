"""What several tests need: machines to try, and weights worked out another way."""

from fractions import Fraction
from itertools import product as all_tuples
from math import gcd
from random import Random


def as_pair(value):
    return (value.numerator, value.denominator)


def as_value(pair):
    return Fraction(pair[0], pair[1])


def check_fraction(case, pair):
    case.assertIs(type(pair), tuple)
    case.assertEqual(len(pair), 2)
    case.assertIs(type(pair[0]), int)
    case.assertIs(type(pair[1]), int)
    case.assertGreater(pair[1], 0)
    case.assertEqual(gcd(pair[0], pair[1]), 1)


def check_worth(case, pair, value):
    """The pair is a fraction, and worth the value by multiplying crosswise."""
    check_fraction(case, pair)
    case.assertEqual(pair[0] * value.denominator, value.numerator * pair[1])


def check_machine(case, machine):
    """Tuples throughout, with fractions as point 1 tells in every place."""
    case.assertIs(type(machine), tuple)
    case.assertEqual(len(machine), 3)
    first, steps, last = machine
    case.assertIs(type(steps), tuple)
    rows = [first, last]
    for step in steps:
        case.assertIs(type(step), tuple)
        rows.extend(step)
    for row in rows:
        case.assertIs(type(row), tuple)
        for pair in row:
            check_fraction(case, pair)


def chance_fraction(chance, figures=1):
    most = 10 ** figures - 1
    return as_pair(Fraction(chance.randint(-most, most), chance.randint(1, most)))


def chance_row(chance, rooms, figures=1):
    return tuple(chance_fraction(chance, figures) for room in range(rooms))


def chance_machine(seed, rooms, signs, figures=1):
    chance = Random(seed)
    first = chance_row(chance, rooms, figures)
    steps = tuple(
        tuple(chance_row(chance, rooms, figures) for room in range(rooms)) for sign in range(signs)
    )
    return (first, steps, chance_row(chance, rooms, figures))


def one_number_machine(number, rooms, signs):
    """A machine with the same number everywhere."""
    row = (number,) * rooms
    return (row, ((row,) * rooms,) * signs, row)


def words_up_to(signs, length):
    for size in range(length + 1):
        yield from all_tuples(range(signs), repeat=size)


def walks_to(machine, word, end=None):
    """The weights without last, summed walk by walk, of the walks that end in a room (or, for None, with last)."""
    first, steps, last = machine
    total = Fraction(0)
    for rooms in all_tuples(range(len(first)), repeat=len(word) + 1):
        if end is not None and rooms[-1] != end:
            continue
        weight = as_value(first[rooms[0]])
        for place, sign in enumerate(word):
            weight *= as_value(steps[sign][rooms[place]][rooms[place + 1]])
        if end is None:
            weight *= as_value(last[rooms[-1]])
        total += weight
    return total


def weight_from_behind(machine, word):
    """The weight of a word, worked out from last towards first, for words too long to go through all walks."""
    first, steps, last = machine
    values = [as_value(pair) for pair in last]
    for sign in reversed(word):
        values = [sum((as_value(pair) * value for pair, value in zip(row, values)), Fraction(0))
                  for row in steps[sign]]
    return sum((as_value(pair) * value for pair, value in zip(first, values)), Fraction(0))


def chance_word(seed, signs, length):
    chance = Random(seed)
    return tuple(chance.randrange(signs) for place in range(length))
