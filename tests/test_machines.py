import unittest
from fractions import Fraction

from tests.helper import (
    chance_machine, chance_word, check_fraction, check_worth, one_number_machine, walks_to, weight_from_behind,
    words_up_to,
)
from wordscales.errors import NoMachine, NoSign
from wordscales.machines import looked, row_behind, weigh

SIZES = ((0, 1), (0, 4), (1, 1), (1, 3), (2, 2), (3, 4), (24, 1), (24, 4))
EXTRA = (1, 2)


def with_item(items, place, item):
    return items[:place] + (item,) + items[place + 1:]


def short_and_long(items, filler):
    """The items with one left out, one told twice, and one more, at the beginning and at the end."""
    others = [items + (filler,), (filler,) + items]
    if items:
        others.extend([items[1:], items[:-1], items + items[-1:], items[:1] + items])
    return others


def misshapen(machine):
    """Machines with one part too short or too long."""
    first, steps, last = machine
    rooms = len(first)
    bad = [(part, steps, last) for part in short_and_long(first, EXTRA)]
    bad.extend([(first, steps, part) for part in short_and_long(last, EXTRA)])
    for sign, step in enumerate(steps):
        for part in short_and_long(step, (EXTRA,) * rooms):
            bad.append((first, with_item(steps, sign, part), last))
        for room, row in enumerate(step):
            for part in short_and_long(row, EXTRA):
                bad.append((first, with_item(steps, sign, with_item(step, room, part)), last))
    return bad


class Looked(unittest.TestCase):
    def test_rooms_and_signs(self):
        for rooms in (0, 1, 2, 3, 7, 23, 24):
            for signs in (1, 2, 3, 4):
                answer = looked(one_number_machine((-1, 2), rooms, signs))
                self.assertIs(type(answer), tuple)
                self.assertEqual(answer, (rooms, signs))

    def test_one_part_of_another_length(self):
        for rooms, signs in SIZES:
            for bad in misshapen(chance_machine(3, rooms, signs)):
                with self.assertRaises(NoMachine):
                    looked(bad)

    def test_two_parts_of_another_length(self):
        first, steps, last = chance_machine(4, 3, 2)
        for bad in ((first[:2], steps, last[:2]), ((), steps, ()), (first, ((), ()), last), (first, ((), steps[1]), last)):
            with self.assertRaises(NoMachine):
                looked(bad)

    def test_rows_shifted_between_rooms(self):
        first, steps, last = chance_machine(5, 2, 1)
        numbers = steps[0][0] + steps[0][1]
        with self.assertRaises(NoMachine):
            looked((first, ((numbers[:1], numbers[1:]),), last))

    def test_numbers_of_signs(self):
        for rooms in (0, 1, 2, 24):
            for signs in (0, 5, 6):
                with self.subTest(rooms=rooms, signs=signs):
                    with self.assertRaises(NoMachine):
                        looked(one_number_machine((1, 1), rooms, signs))

    def test_numbers_of_rooms(self):
        for rooms in (25, 26, 40):
            for signs in (1, 4):
                with self.assertRaises(NoMachine):
                    looked(one_number_machine((1, 1), rooms, signs))


class NoSuchSign(unittest.TestCase):
    def check_refused(self, machine, word):
        for asked in (weigh, row_behind):
            with self.subTest(asked=asked.__name__):
                with self.assertRaises(NoSign):
                    asked(machine, word)

    def test_at_any_place(self):
        for rooms, signs in SIZES:
            machine = chance_machine(6, rooms, signs)
            for length in (1, 2, 5):
                for place in range(length):
                    for strange in (signs, signs + 1, 99, 10 ** 5000, -1, -signs, -99):
                        word = with_item(chance_word(7, signs, length), place, strange)
                        self.check_refused(machine, word)

    def test_in_a_long_word(self):
        machine = chance_machine(8, 3, 2)
        for place in (0, 30, 59):
            self.check_refused(machine, with_item((0, 1) * 30, place, 2))

    def test_the_last_known_sign_is_taken(self):
        for rooms, signs in SIZES:
            machine = chance_machine(9, rooms, signs)
            check_fraction(self, weigh(machine, (signs - 1,)))
            self.assertEqual(len(row_behind(machine, (signs - 1,))), rooms)


class Weights(unittest.TestCase):
    def check_row(self, machine, word):
        row = row_behind(machine, word)
        self.assertIs(type(row), list)
        self.assertEqual(len(row), len(machine[0]))
        for room, pair in enumerate(row):
            check_worth(self, pair, walks_to(machine, word, room))

    def test_walk_by_walk(self):
        for rooms, signs, length in ((0, 2, 3), (1, 1, 5), (1, 3, 3), (2, 2, 4), (3, 2, 3), (4, 1, 4), (2, 4, 2)):
            for figures in (1, 2):
                machine = chance_machine(10 + rooms, rooms, signs, figures)
                for word in words_up_to(signs, length):
                    with self.subTest(rooms=rooms, word=word):
                        check_worth(self, weigh(machine, word), walks_to(machine, word))
                        self.check_row(machine, word)

    def test_forty_figures(self):
        machine = chance_machine(11, 2, 2, 40)
        for word in words_up_to(2, 3):
            check_worth(self, weigh(machine, word), walks_to(machine, word))
            self.check_row(machine, word)

    def test_order_of_signs_and_direction_of_steps(self):
        # Sign 0 leads from room 0 to room 1 alone, sign 1 from room 1 to room 2 alone.
        nil, one, two, three = (0, 1), (1, 1), (2, 1), (1, 3)
        leads = ((nil, two, nil), (nil, nil, nil), (nil, nil, nil))
        follows = ((nil, nil, nil), (nil, nil, three), (nil, nil, nil))
        machine = ((one, nil, nil), (leads, follows), (nil, nil, (5, 1)))
        self.assertEqual(weigh(machine, (0, 1)), (10, 3))
        self.assertEqual(weigh(machine, (1, 0)), (0, 1))
        self.assertEqual(row_behind(machine, (0,)), [nil, two, nil])
        self.assertEqual(row_behind(machine, (0, 1)), [nil, nil, (2, 3)])

    def test_no_sign(self):
        for rooms, signs in SIZES:
            machine = chance_machine(12, rooms, signs)
            self.assertEqual(row_behind(machine, ()), list(machine[0]))
            check_worth(self, weigh(machine, ()), walks_to(machine, ()))

    def test_no_rooms(self):
        for signs in (1, 4):
            machine = ((), ((),) * signs, ())
            for length in (0, 1, 60):
                word = chance_word(13, signs, length)
                self.assertEqual(weigh(machine, word), (0, 1))
                self.assertEqual(row_behind(machine, word), [])

    def test_sixty_signs_and_24_rooms(self):
        for rooms, signs in ((1, 1), (3, 4), (24, 2)):
            machine = chance_machine(14, rooms, signs)
            word = chance_word(15, signs, 60)
            check_worth(self, weigh(machine, word), weight_from_behind(machine, word))
            row = row_behind(machine, word)
            ended = sum((Fraction(*number) * Fraction(*end) for number, end in zip(row, machine[2])), Fraction(0))
            check_worth(self, weigh(machine, word), ended)

    def test_each_room_of_24_behind_sixty_signs(self):
        machine = chance_machine(16, 24, 2)
        word = chance_word(17, 2, 60)
        row = row_behind(machine, word)
        self.assertEqual(len(row), 24)
        for room in (0, 11, 23):
            single = tuple((1, 1) if place == room else (0, 1) for place in range(24))
            check_worth(self, row[room], weight_from_behind((machine[0], machine[1], single), word))

    def test_weights_known_by_count(self):
        # Every walk weighs 1, so that the weight is the number of walks.
        for rooms in (1, 2, 24):
            for length in (0, 1, 59, 60, 61):
                machine = one_number_machine((1, 1), rooms, 2)
                word = chance_word(18, 2, length)
                self.assertEqual(weigh(machine, word), (rooms ** (length + 1), 1))
                self.assertEqual(row_behind(machine, word), [(rooms ** length, 1)] * rooms)

    def test_words_somewhat_beyond_sixty(self):
        machine = chance_machine(19, 2, 2)
        word = chance_word(20, 2, 75)
        check_worth(self, weigh(machine, word), weight_from_behind(machine, word))

    def test_told_rows_are_the_askers_own(self):
        machine = chance_machine(21, 3, 2)
        for word in ((), (0,), (1, 0, 1)):
            told = row_behind(machine, word)
            kept = list(told)
            weight = weigh(machine, word)
            again = row_behind(machine, word)
            self.assertIsNot(told, again)
            told[0] = (99, 1)
            told.append((1, 7))
            self.assertEqual(again, kept)
            self.assertEqual(row_behind(machine, word), kept)
            self.assertEqual(weigh(machine, word), weight)

    def test_machines_stay_as_they_were(self):
        machine = chance_machine(22, 3, 2)
        looked(machine)
        weigh(machine, (0, 1, 1))
        row_behind(machine, (0, 1, 1))
        self.assertEqual(machine, chance_machine(22, 3, 2))


if __name__ == "__main__":
    unittest.main()
