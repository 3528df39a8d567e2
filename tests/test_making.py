import unittest
from fractions import Fraction

from tests.helper import (
    as_value, chance_machine, chance_word, check_machine, check_worth, one_number_machine, weight_from_behind,
    words_up_to,
)
from wordscales.errors import TooMany, Unlike
from wordscales.machines import looked, weigh
from wordscales.making import added, chained, product, scaled, turned

# Rooms of the one, rooms of the other, signs, and the length up to which all words are asked.
PAIRS = ((0, 0, 2, 3), (0, 3, 2, 3), (3, 0, 2, 3), (1, 1, 1, 6), (1, 2, 3, 3), (2, 3, 2, 4), (4, 2, 4, 2), (3, 3, 2, 4))
MULTIPLES = ((0, 1), (1, 1), (-1, 1), (5, 3), (-7, 12), (10 ** 40 + 1, 10 ** 40))


def chained_weight(one, other, word):
    return sum(
        (weight_from_behind(one, word[:cut]) * weight_from_behind(other, word[cut:]) for cut in range(len(word) + 1)),
        Fraction(0),
    )


def added_weight(one, other, word):
    return weight_from_behind(one, word) + weight_from_behind(other, word)


def product_weight(one, other, word):
    return weight_from_behind(one, word) * weight_from_behind(other, word)


def rooms_summed(one_rooms, other_rooms):
    return one_rooms + other_rooms


def rooms_paired(one_rooms, other_rooms):
    return one_rooms * other_rooms


WAYS = (
    (added, added_weight, rooms_summed),
    (product, product_weight, rooms_paired),
    (chained, chained_weight, rooms_summed),
)


class OfTwoMachines(unittest.TestCase):
    def check_made(self, made, rooms, signs):
        check_machine(self, made)
        self.assertEqual(looked(made), (rooms, signs))

    def test_rooms_and_weights(self):
        for make, expected, rooms_of in WAYS:
            for one_rooms, other_rooms, signs, length in PAIRS:
                one = chance_machine(30, one_rooms, signs)
                other = chance_machine(31, other_rooms, signs)
                made = make(one, other)
                self.check_made(made, rooms_of(one_rooms, other_rooms), signs)
                for word in words_up_to(signs, length):
                    with self.subTest(make=make.__name__, one=one_rooms, other=other_rooms, word=word):
                        check_worth(self, weigh(made, word), expected(one, other, word))

    def test_a_machine_with_itself(self):
        machine = chance_machine(32, 3, 2)
        for make, expected, rooms_of in WAYS:
            made = make(machine, machine)
            for word in words_up_to(2, 4):
                check_worth(self, weigh(made, word), expected(machine, machine, word))

    def test_long_words(self):
        one = chance_machine(33, 3, 2)
        other = chance_machine(34, 2, 2)
        word = chance_word(35, 2, 60)
        for make, expected, rooms_of in WAYS:
            check_worth(self, weigh(make(one, other), word), expected(one, other, word))

    def test_forty_figures(self):
        one = chance_machine(36, 2, 2, 40)
        other = chance_machine(37, 2, 2, 40)
        for make, expected, rooms_of in WAYS:
            made = make(one, other)
            check_machine(self, made)
            for word in words_up_to(2, 2):
                check_worth(self, weigh(made, word), expected(one, other, word))

    def test_chain_of_counted_signs(self):
        # Each piece weighs 1, so that the weight is the number of cuts.
        one = one_number_machine((1, 1), 1, 2)
        for length in (0, 1, 2, 17, 60):
            self.assertEqual(weigh(chained(one, one), chance_word(38, 2, length)), (length + 1, 1))

    def test_24_rooms_are_accepted(self):
        for make, one_rooms, other_rooms in (
            (added, 12, 12), (added, 24, 0), (added, 0, 24), (added, 23, 1),
            (chained, 12, 12), (chained, 24, 0), (chained, 0, 24), (chained, 1, 23),
            (product, 4, 6), (product, 24, 1), (product, 1, 24), (product, 2, 12),
        ):
            one = chance_machine(39, one_rooms, 2)
            other = chance_machine(40, other_rooms, 2)
            made = make(one, other)
            expected = dict((way[0], way[1]) for way in WAYS)[make]
            with self.subTest(make=make.__name__, one=one_rooms, other=other_rooms):
                self.check_made(made, 24, 2)
                for word in ((), (0,), (1, 0), (0, 1, 1)):
                    check_worth(self, weigh(made, word), expected(one, other, word))

    def test_no_rooms_in_a_product_of_many(self):
        full = chance_machine(41, 24, 1)
        empty = ((), ((),), ())
        self.assertEqual(product(full, empty), empty)
        self.assertEqual(product(empty, full), empty)

    def test_too_many_rooms(self):
        for make, one_rooms, other_rooms in (
            (added, 24, 1), (added, 1, 24), (added, 13, 12), (added, 24, 24),
            (chained, 24, 1), (chained, 1, 24), (chained, 13, 12), (chained, 24, 24),
            (product, 5, 5), (product, 24, 2), (product, 2, 13), (product, 24, 24),
        ):
            one = one_number_machine((1, 2), one_rooms, 2)
            other = one_number_machine((1, 3), other_rooms, 2)
            with self.subTest(make=make.__name__, one=one_rooms, other=other_rooms):
                with self.assertRaises(TooMany):
                    make(one, other)

    def test_unlike_signs(self):
        for make, expected, rooms_of in WAYS:
            for one_rooms, other_rooms in ((0, 0), (0, 2), (2, 0), (1, 1), (2, 3), (24, 1), (13, 12), (24, 24)):
                for one_signs, other_signs in ((1, 2), (2, 1), (4, 3), (1, 4)):
                    one = one_number_machine((1, 2), one_rooms, one_signs)
                    other = one_number_machine((1, 3), other_rooms, other_signs)
                    with self.subTest(make=make.__name__, one=one_rooms, other=other_rooms):
                        with self.assertRaises(Unlike):
                            make(one, other)

    def test_what_is_handed_in_stays(self):
        one = chance_machine(42, 3, 2)
        other = chance_machine(43, 2, 2)
        for make, expected, rooms_of in WAYS:
            make(one, other)
            self.assertEqual(one, chance_machine(42, 3, 2))
            self.assertEqual(other, chance_machine(43, 2, 2))


class OfOneMachine(unittest.TestCase):
    def test_scaled(self):
        for rooms, signs, length in ((0, 2, 2), (1, 1, 5), (2, 3, 3), (3, 2, 4), (24, 4, 1)):
            machine = chance_machine(50, rooms, signs)
            for multiple in MULTIPLES:
                made = scaled(machine, multiple)
                check_machine(self, made)
                self.assertEqual(looked(made), (rooms, signs))
                for word in words_up_to(signs, length):
                    check_worth(self, weigh(made, word), weight_from_behind(machine, word) * as_value(multiple))
            self.assertEqual(machine, chance_machine(50, rooms, signs))

    def test_turned(self):
        for rooms, signs, length in ((0, 2, 2), (1, 1, 5), (2, 3, 3), (3, 2, 4), (24, 4, 2)):
            machine = chance_machine(51, rooms, signs)
            made = turned(machine)
            check_machine(self, made)
            self.assertEqual(looked(made), (rooms, signs))
            for word in words_up_to(signs, length):
                check_worth(self, weigh(made, word), weight_from_behind(machine, word[::-1]))
            self.assertEqual(machine, chance_machine(51, rooms, signs))

    def test_long_words(self):
        machine = chance_machine(52, 3, 2)
        word = chance_word(53, 2, 60)
        check_worth(self, weigh(turned(machine), word), weight_from_behind(machine, word[::-1]))
        check_worth(self, weigh(scaled(machine, (-2, 9)), word), weight_from_behind(machine, word) * Fraction(-2, 9))


if __name__ == "__main__":
    unittest.main()
