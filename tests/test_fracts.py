import unittest
from fractions import Fraction
from random import Random

from tests.helper import as_pair, as_value, chance_fraction, check_worth
from wordscales.fracts import lowest, minus, over, plus, times

HAND_MADE = ((0, 1), (1, 1), (-1, 1), (1, 2), (-1, 2), (2, 3), (-3, 2), (7, 12), (-5, 18), (100, 1), (1, 100))


def many_fractions():
    chance = Random(1)
    few = [chance_fraction(chance, 2) for turn in range(12)]
    long = [chance_fraction(chance, 40) for turn in range(8)]
    return list(HAND_MADE) + few + long


class Lowest(unittest.TestCase):
    def test_told_ones(self):
        told = (
            (6, 4, (3, 2)), (-6, 4, (-3, 2)), (6, -4, (-3, 2)), (-6, -4, (3, 2)),
            (0, 1, (0, 1)), (0, 7, (0, 1)), (0, -7, (0, 1)),
            (5, 1, (5, 1)), (5, -1, (-5, 1)), (8, 8, (1, 1)), (8, -8, (-1, 1)), (1, 9, (1, 9)), (12, 4, (3, 1)),
        )
        for top, bottom, fraction in told:
            with self.subTest(top=top, bottom=bottom):
                self.assertEqual(lowest(top, bottom), fraction)
                check_worth(self, lowest(top, bottom), Fraction(top, bottom))

    def test_all_small_ones(self):
        for top in range(-20, 21):
            for bottom in range(-20, 21):
                if bottom != 0:
                    check_worth(self, lowest(top, bottom), Fraction(top, bottom))

    def test_forty_figures(self):
        chance = Random(2)
        for turn in range(200):
            top = chance.randint(-10 ** 40, 10 ** 40)
            bottom = chance.choice((-1, 1)) * chance.randint(1, 10 ** 40)
            common = chance.randint(1, 10 ** 12)
            check_worth(self, lowest(top, bottom), Fraction(top, bottom))
            check_worth(self, lowest(top * common, bottom * common), Fraction(top, bottom))
        self.assertEqual(lowest(3 * 10 ** 40, -2 * 10 ** 40), (-3, 2))


class Reckoning(unittest.TestCase):
    def test_told_ones(self):
        self.assertEqual(plus((1, 2), (1, 2)), (1, 1))
        self.assertEqual(plus((1, 6), (1, 10)), (4, 15))
        self.assertEqual(plus((1, 3), (-1, 3)), (0, 1))
        self.assertEqual(minus((1, 2), (1, 3)), (1, 6))
        self.assertEqual(minus((1, 3), (1, 2)), (-1, 6))
        self.assertEqual(minus((5, 7), (5, 7)), (0, 1))
        self.assertEqual(times((2, 3), (3, 4)), (1, 2))
        self.assertEqual(times((0, 1), (-3, 4)), (0, 1))
        self.assertEqual(over((2, 3), (4, 3)), (1, 2))
        self.assertEqual(over((1, 2), (-3, 4)), (-2, 3))
        self.assertEqual(over((0, 1), (-3, 4)), (0, 1))

    def test_every_pair(self):
        fractions = many_fractions()
        for one in fractions:
            for other in fractions:
                with self.subTest(one=one, other=other):
                    check_worth(self, plus(one, other), as_value(one) + as_value(other))
                    check_worth(self, minus(one, other), as_value(one) - as_value(other))
                    check_worth(self, times(one, other), as_value(one) * as_value(other))
                    if other != (0, 1):
                        check_worth(self, over(one, other), as_value(one) / as_value(other))

    def test_undone_again(self):
        for one in many_fractions():
            for other in HAND_MADE[1:]:
                self.assertEqual(minus(plus(one, other), other), one)
                self.assertEqual(over(times(one, other), other), one)

    def test_nought_has_one_form(self):
        for one in many_fractions():
            self.assertEqual(minus(one, one), (0, 1))
            self.assertEqual(times(one, (0, 1)), (0, 1))
            self.assertEqual(as_pair(as_value(plus(one, (0, 1)))), one)


if __name__ == "__main__":
    unittest.main()
