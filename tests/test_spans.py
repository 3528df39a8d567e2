import unittest
from fractions import Fraction
from random import Random

from tests.helper import as_value, chance_machine, empty_machine, rank_of_rows, sparse_machine, words_up_to
from wordscales.fracts import without_common
from wordscales.machines import row_behind
from wordscales.spans import Span, whole_reach, whole_row


def chance_rows(chance, places):
    """Rows of whole numbers, some of them sums of multiples of others."""
    rows = []
    for turn in range(chance.randrange(2 * places + 2)):
        if rows and chance.random() < 0.4:
            one, other = chance.choice(rows), chance.choice(rows)
            rows.append([chance.randint(-2, 2) * mine - 3 * theirs for mine, theirs in zip(one, other)])
        else:
            rows.append([chance.choice((0, 0, 1, -2, 7, 10 ** 12)) for place in range(places)])
    return rows


def as_fractions(rows):
    return [[Fraction(number) for number in row] for row in rows]


class WholeRows(unittest.TestCase):
    def test_common_divisors(self):
        self.assertEqual(without_common([6, -9, 0, 12]), [2, -3, 0, 4])
        self.assertEqual(without_common([0, 0]), [0, 0])
        self.assertEqual(without_common([]), [])
        self.assertEqual(without_common([0, -5]), [0, -1])
        self.assertEqual(without_common([1, 10 ** 40]), [1, 10 ** 40])

    def test_rows_of_fractions(self):
        self.assertEqual(whole_row(((1, 2), (-2, 3), (0, 1))), [3, -4, 0])
        self.assertEqual(whole_row([(4, 1), (6, 5)]), [10, 3])
        self.assertEqual(whole_row(()), [])


class Spans(unittest.TestCase):
    def test_rows_new_or_held(self):
        chance = Random(100)
        for turn in range(150):
            places = chance.randrange(6)
            span = Span(places)
            rows = []
            for row in chance_rows(chance, places):
                rank = rank_of_rows(as_fractions(rows))
                rows.append(row)
                is_new = rank_of_rows(as_fractions(rows)) > rank
                self.assertIs(span.holds(row), not is_new)
                self.assertIs(span.take(row), is_new)
                self.assertIs(span.holds(row), True)
                self.assertIs(span.take(row), False)
            self.assertIs(span.full(), rank_of_rows(as_fractions(rows)) == places)

    def test_settled_rows(self):
        chance = Random(101)
        for turn in range(100):
            places = chance.randrange(1, 6)
            span = Span(places)
            rows = chance_rows(chance, places)
            for row in rows:
                span.take(row)
            for place in span.taken:
                settled = span.settled_row(place)
                self.assertEqual([settled[other] for other in span.taken if other != place],
                                 [(0, 1)] * (len(span.taken) - 1))
                self.assertEqual(settled[place], (1, 1))
                values = [as_value(pair) for pair in settled]
                self.assertEqual(rank_of_rows(as_fractions(rows) + [values]), rank_of_rows(as_fractions(rows)))

    def test_rows_stay_as_they_were(self):
        span = Span(3)
        row = [2, 0, 4]
        span.take(row)
        span.holds(row)
        self.assertEqual(row, [2, 0, 4])


class Reached(unittest.TestCase):
    def test_each_word_whose_row_is_new(self):
        for rooms, signs in ((1, 1), (2, 2), (3, 2), (4, 1), (3, 3)):
            for machine in [sparse_machine(seed, rooms, signs) for seed in range(20)] + [chance_machine(102, rooms, signs)]:
                rows = []
                words = []
                for word in words_up_to(signs, rooms - 1):
                    row = [as_value(pair) for pair in row_behind(machine, word)]
                    if rank_of_rows(rows + [row]) > len(rows):
                        rows.append(row)
                        words.append(word)
                reach = whole_reach(machine)
                self.assertEqual(reach.words, words)
                for told, row in zip(reach.rows, rows):
                    self.assertEqual(rank_of_rows([row, [Fraction(number) for number in told]]), 1)

    def test_no_rooms(self):
        self.assertEqual(whole_reach(empty_machine(2)).words, [])


if __name__ == "__main__":
    unittest.main()
