import unittest
from fractions import Fraction
from random import Random

from tests.helper import (
    as_pairs, as_values, chance_machine, chance_word, check_fraction, check_within, disguised, empty_machine,
    first_unlike_word, late_pair, one_number_machine, rank_of_rows, sparse_machine, weight_from_behind,
    with_idle_rooms, word_machine,
)
from wordscales.alike import alike, parting, rows_for, shows
from wordscales.errors import Unlike, WeighError
from wordscales.machines import weigh
from wordscales.making import added, chained, product, scaled, turned

NIL = (0, 1)
# Rooms of the one, rooms of the other, signs: few enough to go through all words.
PAIRS = (
    (0, 0, 1), (0, 0, 4), (0, 1, 2), (1, 0, 2), (0, 3, 2), (1, 1, 1), (1, 1, 4), (1, 2, 3), (2, 1, 3), (2, 2, 2),
    (3, 2, 2), (2, 4, 1), (3, 3, 2), (4, 3, 1), (5, 5, 1),
)


def led_on(step, part):
    return [sum((value * number for value, number in zip(part, column)), Fraction(0))
            for column in zip(*[as_values(row) for row in step])]


def really_shows(one, other, rows):
    """What point 8 asks of rows, word for word."""
    rooms = len(one[0])
    values = [as_values(row) for row in rows]
    rank = rank_of_rows(values)

    def is_sum(row):
        return rank_of_rows(values + [row]) == rank

    if not is_sum(as_values(one[0]) + as_values(other[0])):
        return False
    for row in values:
        for one_step, other_step in zip(one[1], other[1]):
            if not is_sum(led_on(one_step, row[:rooms]) + led_on(other_step, row[rooms:])):
                return False
        sums = [sum((value * number for value, number in zip(part, as_values(last))), Fraction(0))
                for part, last in ((row[:rooms], one[2]), (row[rooms:], other[2]))]
        if sums[0] != sums[1]:
            return False
    return True


def alike_pairs():
    """Machines that are alike by the way they are built."""
    pairs = [(empty_machine(signs), empty_machine(signs)) for signs in (1, 2, 4)]
    for rooms, signs in ((1, 1), (1, 4), (2, 1), (2, 2), (3, 2), (4, 3), (6, 1), (6, 2)):
        for machine in (chance_machine(60, rooms, signs), sparse_machine(61, rooms, signs)):
            pairs.append((machine, machine))
            pairs.append((machine, disguised(machine, 62, 2 * rooms)))
            pairs.append((machine, with_idle_rooms(machine, 1, 2, 63)))
            pairs.append((disguised(machine, 64, rooms), disguised(with_idle_rooms(machine, 2, 1, 65), 66, rooms)))
            pairs.append((scaled(machine, (2, 1)), disguised(added(machine, machine), 67, rooms)))
            pairs.append((empty_machine(signs), added(machine, scaled(machine, (-1, 1)))))
            pairs.append((turned(turned(machine)), machine))
    silent = chance_machine(68, 3, 2)
    pairs.append((empty_machine(2), ((NIL,) * 3, silent[1], silent[2])))
    pairs.append((empty_machine(2), (silent[0], silent[1], (NIL,) * 3)))
    one, other = chance_machine(69, 2, 2), chance_machine(70, 3, 2)
    pairs.append((added(one, other), added(other, one)))
    pairs.append((product(one, other), product(other, one)))
    pairs.append((turned(chained(one, other)), chained(turned(other), turned(one))))
    return pairs


def parted_pairs():
    """Machines that are not alike, with the word that parts them."""
    told = []
    for word, signs in (((), 1), ((), 3), ((1,), 2), ((0, 0), 1), ((1, 0), 2), ((2, 0, 1), 3), ((0, 1, 1, 0, 1), 2)):
        other = word_machine(word, signs, (-3, 2))
        told.append((empty_machine(signs), other, word))
        for rooms in (1, 2, 4):
            machine = chance_machine(71, rooms, signs)
            told.append((machine, disguised(added(machine, other), 72, rooms), word))
    for one_rooms, other_rooms in ((1, 1), (1, 2), (2, 1), (3, 3), (0, 4), (4, 0)):
        one, other = late_pair(one_rooms, other_rooms)
        told.append((one, other, (0,) * (one_rooms + other_rooms - 1)))
    return told


class Parting(unittest.TestCase):
    def check_parted(self, one, other, word):
        for told in (parting(one, other), parting(other, one)):
            self.assertEqual(told, word)
            self.assertIs(type(told), tuple)
        self.assertIs(alike(one, other), False)
        self.assertIs(alike(other, one), False)
        self.assertNotEqual(weigh(one, word), weigh(other, word))
        self.assertLess(len(word), len(one[0]) + len(other[0]))

    def check_alike(self, one, other):
        self.assertIsNone(parting(one, other))
        self.assertIsNone(parting(other, one))
        self.assertIs(alike(one, other), True)
        self.assertIs(alike(other, one), True)

    def test_all_words_gone_through(self):
        for one_rooms, other_rooms, signs in PAIRS:
            for seed in range(40):
                one = sparse_machine(seed, one_rooms, signs)
                other = sparse_machine(seed + 1000, other_rooms, signs)
                word = first_unlike_word(one, other)
                with self.subTest(one=one, other=other):
                    if word is None:
                        self.check_alike(one, other)
                    else:
                        self.check_parted(one, other, word)

    def test_drawn_machines(self):
        for one_rooms, other_rooms, signs in PAIRS:
            for figures in (1, 30):
                one = chance_machine(73, one_rooms, signs, figures)
                other = chance_machine(74, other_rooms, signs, figures)
                self.assertEqual(parting(one, other), first_unlike_word(one, other))

    def test_told_words(self):
        for one, other, word in parted_pairs():
            with self.subTest(one=one, other=other):
                self.check_parted(one, other, word)

    def test_alike_by_the_way_they_are_built(self):
        for one, other in alike_pairs():
            with self.subTest(one=one, other=other):
                self.check_alike(one, other)

    def test_one_number_changed(self):
        for seed in range(12):
            first, steps, last = sparse_machine(seed, 3, 2)
            one = with_idle_rooms((first, steps, last), 1, 0, seed)
            for room in range(3):
                row = steps[1][room][:2] + ((7, 5),)
                step = steps[1][:room] + (row,) + steps[1][room + 1:]
                other = (first, (steps[0], step), last)
                self.assertEqual(parting(one, other), first_unlike_word(one, other))

    def test_the_shorter_word_is_ahead_then_the_order_of_tuples(self):
        order = [(), (0,), (2,), (0, 0), (0, 2), (1, 0), (2, 1), (0, 0, 0), (0, 2, 2), (1, 0, 0), (2, 2, 2)]
        for place, word in enumerate(order):
            for later in order[place + 1:]:
                self.check_parted(word_machine(word, 3), word_machine(later, 3), word)
                both = added(word_machine(later, 3), word_machine(word, 3, (1, 7)))
                self.check_parted(empty_machine(3), both, word)

    def test_small_difference_of_large_numbers(self):
        large = 10 ** 40
        one = one_number_machine((large, 1), 1, 1)
        other = (((large * large + 1, large),), one[1], one[2])
        self.check_parted(one, other, ())
        step = ((((large * large + 1, large),),),)
        self.check_parted(one, (one[0], step, one[2]), (0,))

    def test_unlike(self):
        for one_rooms, other_rooms in ((0, 0), (0, 2), (2, 0), (1, 1), (24, 24)):
            for one_signs, other_signs in ((1, 2), (2, 1), (4, 3), (1, 4)):
                one = one_number_machine((1, 2), one_rooms, one_signs)
                other = one_number_machine((1, 2), other_rooms, other_signs)
                for ask in (
                    lambda: parting(one, other), lambda: alike(one, other), lambda: rows_for(one, other),
                    lambda: shows(one, other, []), lambda: shows(one, other, [[NIL] * (one_rooms + other_rooms)]),
                ):
                    with self.assertRaises(Unlike) as caught:
                        ask()
                    self.assertIsInstance(caught.exception, WeighError)


class Rows(unittest.TestCase):
    def check_rows(self, one, other):
        rows = rows_for(one, other)
        self.assertIs(type(rows), list)
        for row in rows:
            self.assertIs(type(row), list)
            self.assertEqual(len(row), len(one[0]) + len(other[0]))
            for pair in row:
                check_fraction(self, pair)
        self.assertEqual(len({id(told) for told in [rows] + rows}), len(rows) + 1)
        self.assertTrue(really_shows(one, other, rows))
        self.assertIs(shows(one, other, rows), True)
        return rows

    def test_rows_of_alike_machines(self):
        for one, other in alike_pairs():
            with self.subTest(one=one, other=other):
                self.check_rows(one, other)
                self.check_rows(other, one)

    def test_no_rows_of_parted_machines(self):
        for one, other, word in parted_pairs():
            self.assertIsNone(rows_for(one, other))
            self.assertIsNone(rows_for(other, one))

    def test_parted_machines_are_shown_alike_by_no_rows(self):
        for one, other, word in parted_pairs():
            rooms = len(one[0]) + len(other[0])
            units = [[(1, 1) if place == room else NIL for place in range(rooms)] for room in range(rooms)]
            for rows in ([], units, units[1:], [list(one[0] + other[0])]):
                self.assertIs(shows(one, other, rows), False)

    def test_the_same_span_told_otherwise(self):
        for one, other in alike_pairs():
            rows = rows_for(one, other)
            noughts = [NIL] * (len(one[0]) + len(other[0]))
            otherwise = [
                rows + rows, rows[::-1], rows + [noughts], [tuple(noughts)] + rows, [tuple(row) for row in rows],
                tuple(tuple(row) for row in rows),
            ]
            if rows:
                values = [as_values(row) for row in rows]
                total = [sum(column) * Fraction(-5, 3) for column in zip(*values)]
                otherwise.append([list(as_pairs(total))] + rows)
                otherwise.append([list(as_pairs(total))] + rows[1:])
                otherwise.append([as_pairs([value / 7 for value in row]) for row in values])
            for told in otherwise:
                with self.subTest(one=one, other=other, rows=told):
                    self.assertIs(shows(one, other, told), True)

    def test_first_is_missing(self):
        one = chance_machine(80, 2, 2)
        other = disguised(one, 81, 3)
        self.assertIs(shows(one, other, []), False)
        self.assertIs(shows(one, other, [[NIL] * 4]), False)
        # Two rooms that no sign leaves: each row is led on to a multiple of itself.
        still = (((1, 1), (1, 1)), ((((1, 1), NIL), (NIL, (1, 1))),), ((1, 1), (1, 1)))
        rows = [[(1, 1), NIL, (1, 1), NIL]]
        self.assertIs(shows(still, still, rows), False)
        self.assertIs(shows(still, still, rows + [[NIL, (1, 1), NIL, (1, 1)]]), True)

    def test_a_row_led_on_is_missing(self):
        for rooms, signs in ((2, 1), (2, 2), (3, 2), (4, 3)):
            one = chance_machine(82, rooms, signs)
            other = disguised(one, 83, rooms)
            self.assertIs(shows(one, other, [list(one[0] + other[0])]), False)
            rows = rows_for(one, other)
            self.assertEqual(len(rows), rooms)
            for place in range(rooms):
                self.assertIs(shows(one, other, rows[:place] + rows[place + 1:]), False)

    def test_led_on_by_the_last_sign_alone_is_missing(self):
        still = (((1, 1), NIL), (NIL, (1, 1)))
        leads = ((NIL, (1, 1)), (NIL, (1, 1)))
        machine = (((1, 1), NIL), (still, still, still, leads), ((1, 1), (1, 1)))
        row = [(1, 1), NIL, (1, 1), NIL]
        self.assertIs(shows(machine, machine, [row]), False)
        self.assertIs(shows(machine, machine, [row, [NIL, (1, 1), NIL, (1, 1)]]), True)

    def test_unlike_sums_with_last(self):
        for one, other in alike_pairs():
            rooms = len(one[0]) + len(other[0])
            units = [[(1, 1) if place == room else NIL for place in range(rooms)] for room in range(rooms)]
            silent = all(number == NIL for number in one[2] + other[2])
            self.assertIs(shows(one, other, units), silent)

    def test_chance_rows(self):
        chance = Random(84)
        seen = {True: 0, False: 0}
        for turn in range(600):
            one_rooms, other_rooms, signs = chance.choice(((1, 1, 1), (1, 2, 1), (2, 2, 1), (2, 1, 2), (0, 2, 2)))
            one = sparse_machine(chance.random(), one_rooms, signs)
            other = sparse_machine(chance.random(), other_rooms, signs)
            rows = [
                [chance.choice((NIL, NIL, (1, 1), (-1, 1), (2, 1))) for place in range(one_rooms + other_rooms)]
                for row in range(chance.randrange(4))
            ]
            expected = really_shows(one, other, rows)
            seen[expected] += 1
            self.assertIs(shows(one, other, rows), expected, (one, other, rows))
            if expected:
                self.assertIs(alike(one, other), True)
        self.assertGreater(min(seen.values()), 20)

    def test_no_rows_at_all(self):
        for signs in (1, 4):
            self.assertEqual(rows_for(empty_machine(signs), empty_machine(signs)), [])
            self.assertIs(shows(empty_machine(signs), empty_machine(signs), []), True)
            self.assertIs(shows(empty_machine(signs), empty_machine(signs), [[], ()]), True)
        drawn = chance_machine(85, 2, 2)
        unbegun = ((NIL, NIL), drawn[1], drawn[2])
        self.assertIs(shows(unbegun, empty_machine(2), []), True)
        self.assertIs(shows(empty_machine(2), unbegun, []), True)
        self.assertIs(shows(unbegun, unbegun, []), True)
        self.assertIs(shows(drawn, unbegun, []), False)
        self.assertIs(shows(unbegun, drawn, []), False)

    def test_rows_of_another_length_show_nothing(self):
        one = chance_machine(86, 2, 2)
        rows = rows_for(one, one)
        self.assertIs(shows(one, one, [row[:-1] for row in rows]), False)
        self.assertIs(shows(one, one, [row + [NIL] for row in rows]), False)

    def test_what_is_handed_in_stays_and_nothing_hangs_on_it(self):
        one = chance_machine(87, 3, 2)
        other = with_idle_rooms(one, 1, 1, 88)
        rows = rows_for(one, other)
        kept = [list(row) for row in rows]
        self.assertIs(shows(one, other, rows), True)
        self.assertEqual(rows, kept)
        parting(one, other)
        alike(one, other)
        self.assertEqual(one, chance_machine(87, 3, 2))
        self.assertEqual(other, with_idle_rooms(one, 1, 1, 88))
        for row in rows:
            row[0] = (99, 1)
            row.append(NIL)
        rows.clear()
        self.assertEqual(rows_for(one, other), kept)
        self.assertIs(shows(one, other, kept), True)


class LongOnes(unittest.TestCase):
    def test_long_chains(self):
        for rooms in (13, 20, 24):
            for signs in (1, 2, 4):
                word = chance_word(90, signs, rooms - 1)
                chain = word_machine(word, signs, (-2, 3))
                twin = disguised(chain, 91, 5)
                longer = word_machine(word + (0,), signs, (-2, 3))
                self.assertEqual(check_within(self, 5, lambda: parting(chain, empty_machine(signs))), word)
                self.assertEqual(check_within(self, 5, lambda: parting(longer, chain)), word)
                self.assertIs(check_within(self, 5, lambda: alike(chain, twin)), True)
                rows = check_within(self, 5, lambda: rows_for(chain, twin))
                self.assertIs(check_within(self, 5, lambda: shows(chain, twin, rows)), True)

    def test_parted_at_the_last_moment(self):
        for one_rooms, other_rooms in ((10, 10), (13, 13), (20, 0), (1, 19), (24, 24)):
            one, other = late_pair(one_rooms, other_rooms)
            word = check_within(self, 10, lambda: parting(one, other))
            self.assertEqual(word, (0,) * (one_rooms + other_rooms - 1))
            self.assertEqual(weight_from_behind(one, word[1:]), weight_from_behind(other, word[1:]))

    def test_thirteen_rooms_each(self):
        for signs in (1, 2, 4):
            machine = chance_machine(92, 13, signs)
            small = chance_machine(93, 7, signs)
            for one, other in (
                (machine, disguised(machine, 94, 26)),
                (machine, disguised(with_idle_rooms(machine, 5, 6, 95), 96, 9)),
                (with_idle_rooms(small, 2, 4, 97), with_idle_rooms(small, 1, 5, 98)),
            ):
                self.assertIs(check_within(self, 10, lambda: alike(one, other)), True)
                rows = check_within(self, 10, lambda: rows_for(one, other))
                self.assertIs(check_within(self, 10, lambda: shows(one, other, rows)), True)
                self.assertTrue(really_shows(one, other, rows))
                late = added(other, word_machine((0,), signs)) if len(other[0]) < 23 else scaled(other, (8, 7))
                self.assertIs(alike(one, late), False)


if __name__ == "__main__":
    unittest.main()
