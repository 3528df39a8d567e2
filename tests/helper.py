"""What several tests need: machines to try, and weights worked out another way."""

from fractions import Fraction
from itertools import product as all_tuples
from math import gcd
from random import Random
from time import perf_counter


def as_pair(value):
    return (value.numerator, value.denominator)


def as_value(pair):
    return Fraction(pair[0], pair[1])


def check_fraction(case, pair):
    case.assertIs(type(pair), tuple)
    case.assertEqual(len(pair), 2)
    case.assertIs(type(pair[0]), int)
    case.assertIs(type(pair[1]), int)
    case.assertGreater(pair[1], 0)
    case.assertEqual(gcd(pair[0], pair[1]), 1)


def check_worth(case, pair, value):
    """The pair is a fraction, and worth the value by multiplying crosswise."""
    check_fraction(case, pair)
    case.assertEqual(pair[0] * value.denominator, value.numerator * pair[1])


def check_machine(case, machine):
    """Tuples throughout, with fractions as point 1 tells in every place."""
    case.assertIs(type(machine), tuple)
    case.assertEqual(len(machine), 3)
    first, steps, last = machine
    case.assertIs(type(steps), tuple)
    rows = [first, last]
    for step in steps:
        case.assertIs(type(step), tuple)
        rows.extend(step)
    for row in rows:
        case.assertIs(type(row), tuple)
        for pair in row:
            check_fraction(case, pair)


def chance_fraction(chance, figures=1):
    most = 10 ** figures - 1
    return as_pair(Fraction(chance.randint(-most, most), chance.randint(1, most)))


def chance_row(chance, rooms, figures=1):
    return tuple(chance_fraction(chance, figures) for room in range(rooms))


def chance_machine(seed, rooms, signs, figures=1):
    chance = Random(seed)
    first = chance_row(chance, rooms, figures)
    steps = tuple(
        tuple(chance_row(chance, rooms, figures) for room in range(rooms)) for sign in range(signs)
    )
    return (first, steps, chance_row(chance, rooms, figures))


def one_number_machine(number, rooms, signs):
    """A machine with the same number everywhere."""
    row = (number,) * rooms
    return (row, ((row,) * rooms,) * signs, row)


def words_up_to(signs, length):
    for size in range(length + 1):
        yield from all_tuples(range(signs), repeat=size)


def walks_to(machine, word, end=None):
    """The weights without last, summed walk by walk, of the walks that end in a room (or, for None, with last)."""
    first, steps, last = machine
    total = Fraction(0)
    for rooms in all_tuples(range(len(first)), repeat=len(word) + 1):
        if end is not None and rooms[-1] != end:
            continue
        weight = as_value(first[rooms[0]])
        for place, sign in enumerate(word):
            weight *= as_value(steps[sign][rooms[place]][rooms[place + 1]])
        if end is None:
            weight *= as_value(last[rooms[-1]])
        total += weight
    return total


def weight_from_behind(machine, word):
    """The weight of a word, worked out from last towards first, for words too long to go through all walks."""
    first, steps, last = machine
    values = [as_value(pair) for pair in last]
    for sign in reversed(word):
        values = [sum((as_value(pair) * value for pair, value in zip(row, values)), Fraction(0))
                  for row in steps[sign]]
    return sum((as_value(pair) * value for pair, value in zip(first, values)), Fraction(0))


def chance_word(seed, signs, length):
    chance = Random(seed)
    return tuple(chance.randrange(signs) for place in range(length))


def as_values(row):
    return [as_value(pair) for pair in row]


def as_pairs(values):
    return tuple(as_pair(value) for value in values)


def sparse_machine(seed, rooms, signs):
    """A machine with mostly noughts, so that rooms that nothing leads to, or that lead to nothing, are common."""
    chance = Random(seed)

    def row():
        return tuple(chance.choice(((0, 1), (0, 1), (1, 1), (-1, 1), (1, 2))) for room in range(rooms))

    return (row(), tuple(tuple(row() for room in range(rooms)) for sign in range(signs)), row())


def empty_machine(signs):
    return ((), ((),) * signs, ())


def word_machine(word, signs, number=(1, 1)):
    """A chain of rooms in which the word alone has a weight, this number."""
    rooms = len(word) + 1

    def step(sign):
        return tuple(
            tuple((1, 1) if known == sign and end == place + 1 else (0, 1) for end in range(rooms))
            for place, known in enumerate(word + (None,))
        )

    first = tuple(number if place == 0 else (0, 1) for place in range(rooms))
    last = tuple((1, 1) if place == rooms - 1 else (0, 1) for place in range(rooms))
    return (first, tuple(step(sign) for sign in range(signs)), last)


def power_machine(roots, shares):
    """A machine of one sign in which a word of k signs weighs the sum of share times root to the k."""
    rooms = range(len(roots))
    step = tuple(tuple(as_pair(roots[room]) if end == room else (0, 1) for end in rooms) for room in rooms)
    return (as_pairs(shares), (step,), ((1, 1),) * len(roots))


def late_pair(one_rooms, other_rooms):
    """Two machines that are parted by a word as long as a parting word can be: one_rooms + other_rooms - 1 signs."""
    roots = [Fraction(number) for number in range(1, one_rooms + other_rooms + 1)]
    shares = []
    for root in roots:
        share = Fraction(1)
        for other in roots:
            share /= (root - other) if other != root else 1
        shares.append(share)
    one = power_machine(roots[:one_rooms], shares[:one_rooms])
    return one, power_machine(roots[one_rooms:], [-share for share in shares[one_rooms:]])


def with_numbers_mixed(machine, source, target, number):
    """An alike machine: in each row the number at target has so many times the number at source added."""
    first, steps, last = machine

    def moved(row):
        values = as_values(row)
        values[target] += number * values[source]
        return values

    def led(step):
        rows = [moved(row) for row in step]
        rows[source] = [mine - number * theirs for mine, theirs in zip(rows[source], rows[target])]
        return tuple(as_pairs(row) for row in rows)

    ends = as_values(last)
    ends[source] -= number * ends[target]
    return (as_pairs(moved(first)), tuple(led(step) for step in steps), as_pairs(ends))


def disguised(machine, seed, turns):
    """An alike machine with as many rooms, their numbers mixed so many times."""
    chance = Random(seed)
    rooms = len(machine[0])
    if rooms > 1:
        for turn in range(turns):
            source, target = chance.sample(range(rooms), 2)
            number = Fraction(chance.choice((-2, -1, 1, 2)), chance.choice((1, 1, 2)))
            machine = with_numbers_mixed(machine, source, target, number)
    return machine


def with_idle_rooms(machine, unreached, unheard, seed):
    """An alike machine with more rooms: some that no walk comes to, some from which no walk comes to an end."""
    chance = Random(seed)
    first, steps, last = machine
    rooms = len(first)
    none = ((0, 1),)

    def step_with_more(step):
        known = [row + none * unreached + chance_row(chance, unheard) for row in step]
        known += [chance_row(chance, rooms + unreached + unheard) for room in range(unreached)]
        known += [none * (rooms + unreached) + chance_row(chance, unheard) for room in range(unheard)]
        return tuple(known)

    return (
        first + none * unreached + chance_row(chance, unheard),
        tuple(step_with_more(step) for step in steps),
        last + chance_row(chance, unreached) + none * unheard,
    )


def first_unlike_word(one, other):
    """The first word with unlike weights, from all words shorter than both machines have rooms together."""
    signs = len(one[1])
    for word in words_up_to(signs, len(one[0]) + len(other[0]) - 1):
        if weight_from_behind(one, word) != weight_from_behind(other, word):
            return word
    return None


def rank_of_rows(rows):
    """How many of the rows, lists of values, no sum of multiples of the others makes up for."""
    rows = [list(row) for row in rows]
    rank = 0
    for place in range(len(rows[0]) if rows else 0):
        pivots = [turn for turn in range(rank, len(rows)) if rows[turn][place] != 0]
        if not pivots:
            continue
        rows[rank], rows[pivots[0]] = rows[pivots[0]], rows[rank]
        for turn in range(rank + 1, len(rows)):
            if rows[turn][place] != 0:
                factor = rows[turn][place] / rows[rank][place]
                rows[turn] = [mine - factor * theirs for mine, theirs in zip(rows[turn], rows[rank])]
        rank += 1
    return rank


def table_of_weights(machine, beginnings, ends):
    return [[weight_from_behind(machine, beginning + end) for end in ends] for beginning in beginnings]


def rank_by_table(machine):
    """The rank from the weights alone: words shorter than the rooms tell all rows and places of the table apart."""
    words = list(words_up_to(len(machine[1]), max(len(machine[0]) - 1, 0)))
    return rank_of_rows(table_of_weights(machine, words, words))


def check_within(case, seconds, work):
    """The work's answer, which must come in so many seconds."""
    begun = perf_counter()
    answer = work()
    case.assertLess(perf_counter() - begun, seconds)
    return answer
