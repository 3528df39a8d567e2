import unittest
from fractions import Fraction

from tests.helper import (
    chance_machine, chance_word, check_machine, check_within, check_worth, disguised, empty_machine, late_pair,
    power_machine, rank_by_table, rank_of_rows, sparse_machine, table_of_weights, weight_from_behind, with_idle_rooms,
    word_machine, words_up_to,
)
from wordscales.alike import alike, rows_for, shows
from wordscales.machines import looked, weigh
from wordscales.making import added, chained, product, scaled, turned
from wordscales.smallest import rank, smallest, witnesses

NIL = (0, 1)
# Counts how often sign 0 stands in a word.
COUNT = (
    ((1, 1), NIL),
    ((((1, 1), (1, 1)), (NIL, (1, 1))), (((1, 1), NIL), (NIL, (1, 1)))),
    (NIL, (1, 1)),
)


def silent_machines():
    """Machines in which every word weighs nought."""
    first, steps, last = chance_machine(110, 4, 2)
    made = [empty_machine(signs) for signs in (1, 2, 4)]
    made.append(((NIL,) * 4, steps, last))
    made.append((first, steps, (NIL,) * 4))
    made.append(scaled((first, steps, last), NIL))
    made.append(added((first, steps, last), scaled((first, steps, last), (-1, 1))))
    made.append(product((first, steps, last), scaled(COUNT, NIL)))
    made.append(chained((first, steps, last), empty_machine(2)))
    made.append(with_idle_rooms(empty_machine(2), 3, 2, 111))
    # Every sum over the rooms is nought, although no number is.
    made.append((((1, 2), (-1, 2)), ((((3, 1), (1, 1)), ((1, 1), (3, 1))),), ((1, 1), (1, 1))))
    return made


def many_machines():
    """Machines with their rank, where the way they are built tells it."""
    told = [(machine, 0) for machine in silent_machines()]
    for rooms, signs in ((1, 1), (1, 4), (2, 2), (3, 1), (4, 2), (5, 3), (8, 2)):
        machine = chance_machine(112, rooms, signs)
        told.append((machine, rooms))
        told.append((disguised(machine, 113, 2 * rooms), rooms))
        told.append((with_idle_rooms(machine, 2, 0, 114), rooms))
        told.append((with_idle_rooms(machine, 0, 2, 115), rooms))
        told.append((disguised(with_idle_rooms(machine, 2, 3, 116), 117, 2 * rooms), rooms))
        told.append((disguised(added(machine, machine), 118, rooms), rooms))
    for word, signs in (((), 1), ((1,), 2), ((0, 1, 1), 3), ((0, 0, 0, 0), 1)):
        told.append((word_machine(word, signs, (-7, 3)), len(word) + 1))
    return told


class Smallest(unittest.TestCase):
    def check_smallest(self, machine, rooms):
        small = smallest(machine)
        check_machine(self, small)
        self.assertEqual(looked(small), (rooms, len(machine[1])))
        self.assertEqual(rank(machine), rooms)
        self.assertIs(type(rank(machine)), int)
        self.assertEqual(rank(small), rooms)
        self.assertLessEqual(rooms, len(machine[0]))
        self.assertIs(alike(machine, small), True)
        self.assertIs(shows(machine, small, rows_for(machine, small)), True)
        for word in words_up_to(len(machine[1]), 2):
            check_worth(self, weigh(small, word), weight_from_behind(machine, word))
        word = chance_word(119, len(machine[1]), 15)
        check_worth(self, weigh(small, word), weight_from_behind(machine, word))

    def check_witnesses(self, machine, rooms):
        told = witnesses(machine)
        self.assertIs(type(told), tuple)
        self.assertEqual(len(told), 2)
        self.assertIsNot(told[0], told[1])
        for words in told:
            self.assertIs(type(words), list)
            self.assertEqual(len(words), rooms)
            for word in words:
                self.assertIs(type(word), tuple)
                self.assertLessEqual(len(word), 60)
                self.assertTrue(all(type(sign) is int and 0 <= sign < len(machine[1]) for sign in word))
        self.assertEqual(rank_of_rows(table_of_weights(machine, told[0], told[1])), rooms)

    def test_told_ranks(self):
        for machine, rooms in many_machines():
            with self.subTest(machine=machine):
                self.check_smallest(machine, rooms)
                self.check_witnesses(machine, rooms)

    def test_ranks_by_the_weights_alone(self):
        seen = {}
        for rooms, signs in ((1, 1), (2, 1), (2, 2), (3, 2), (2, 3), (5, 1), (4, 2)):
            for seed in range(25):
                machine = sparse_machine(seed, rooms, signs)
                expected = rank_by_table(machine)
                seen[rooms - expected] = True
                with self.subTest(machine=machine):
                    self.check_smallest(machine, expected)
                    self.check_witnesses(machine, expected)
        # Else the drawn machines would not try what they are for.
        self.assertGreater(len(seen), 3)

    def test_rank_nought(self):
        for machine in silent_machines():
            signs = len(machine[1])
            self.assertEqual(rank(machine), 0)
            self.assertEqual(smallest(machine), empty_machine(signs))
            self.assertEqual(witnesses(machine), ([], []))

    def test_what_is_handed_in_stays_and_nothing_hangs_on_it(self):
        machine = with_idle_rooms(chance_machine(120, 3, 2), 1, 1, 121)
        told = witnesses(machine)
        kept = (list(told[0]), list(told[1]))
        smallest(machine)
        rank(machine)
        self.assertEqual(machine, with_idle_rooms(chance_machine(120, 3, 2), 1, 1, 121))
        told[0].clear()
        told[1].append((0,))
        self.assertEqual(witnesses(machine), kept)

    def test_thirty_figures(self):
        machine = chance_machine(122, 2, 2, 30)
        self.check_smallest(disguised(with_idle_rooms(machine, 1, 1, 123), 124, 3), 2)
        self.check_witnesses(disguised(with_idle_rooms(machine, 1, 1, 123), 124, 3), 2)


class RanksOfMadeMachines(unittest.TestCase):
    def test_sums(self):
        one, other = chance_machine(130, 3, 2), chance_machine(131, 4, 2)
        self.assertEqual(rank(added(one, other)), 7)
        self.assertEqual(rank(added(one, one)), 3)
        self.assertEqual(rank(added(one, disguised(one, 132, 5))), 3)
        self.assertEqual(rank(added(one, scaled(one, (-1, 1)))), 0)
        self.assertEqual(rank(added(added(one, other), scaled(one, (-1, 1)))), 4)
        self.assertEqual(rank(added(one, empty_machine(2))), 3)

    def test_sums_of_powers(self):
        roots = [Fraction(number) for number in (2, 3, 5)]
        one = power_machine(roots, [Fraction(1), Fraction(2), Fraction(3)])
        other = power_machine(roots[1:] + [Fraction(7)], [Fraction(-2), Fraction(1), Fraction(1)])
        # The root 3 falls out, and 5 is told once.
        self.assertEqual(rank(added(one, other)), 3)
        self.assertEqual(rank(power_machine([roots[0]] * 4, [Fraction(1)] * 4)), 1)

    def test_products(self):
        self.assertEqual(rank(COUNT), 2)
        # Squares of the count: 1, the count, and its square tell all rows.
        self.assertEqual(rank(product(COUNT, COUNT)), 3)
        self.assertEqual(rank(product(product(COUNT, COUNT), COUNT)), 4)
        one = power_machine([Fraction(2), Fraction(3)], [Fraction(1), Fraction(1)])
        other = power_machine([Fraction(6), Fraction(4)], [Fraction(1), Fraction(1)])
        # 2 * 6 and 3 * 4 are one root.
        self.assertEqual(rank(product(one, other)), 3)
        self.assertEqual(rank(product(chance_machine(133, 3, 2), chance_machine(134, 4, 2))), 12)
        self.assertEqual(rank(product(chance_machine(133, 3, 2), empty_machine(2))), 0)
        self.assertEqual(rank(product(word_machine((0, 1), 2), word_machine((0, 0), 2))), 0)
        self.assertEqual(rank(product(word_machine((0, 1), 2), word_machine((0, 1), 2))), 3)

    def test_chains(self):
        self.assertEqual(rank(chained(chance_machine(135, 3, 2), chance_machine(136, 4, 2))), 7)
        self.assertEqual(rank(chained(word_machine((0, 1), 2), word_machine((1,), 2))), 4)
        self.assertEqual(rank(chained(word_machine((), 2), word_machine((), 2))), 1)
        self.assertEqual(rank(chained(COUNT, scaled(COUNT, NIL))), 0)

    def test_turned_and_multiples(self):
        for machine, rooms in many_machines():
            self.assertEqual(rank(turned(machine)), rooms)
            self.assertEqual(rank(scaled(machine, (-5, 7))), rooms)
            self.assertEqual(rank(scaled(machine, NIL)), 0)

    def test_never_more_than_promised(self):
        for seed in range(30):
            one, other = sparse_machine(seed, 2, 2), sparse_machine(seed + 50, 2, 2)
            ranks = (rank(one), rank(other))
            for make, most in ((added, sum(ranks)), (chained, sum(ranks)), (product, ranks[0] * ranks[1])):
                made = make(one, other)
                self.assertLessEqual(rank(made), most)
                self.assertEqual(rank(made), rank_by_table(made))


class LongOnes(unittest.TestCase):
    def test_long_chains(self):
        for rooms in (13, 20, 24):
            for signs in (1, 2, 4):
                word = chance_word(140, signs, rooms - 1)
                chain = disguised(word_machine(word, signs, (3, 4)), 141, 4)
                self.assertEqual(check_within(self, 5, lambda: rank(chain)), rooms)
                small = check_within(self, 5, lambda: smallest(chain))
                self.assertEqual(looked(small), (rooms, signs))
                self.assertEqual(weigh(small, word), (3, 4))
                told = check_within(self, 5, lambda: witnesses(chain))
                self.assertEqual([len(words) for words in told], [rooms, rooms])
                # Each beginning of the word needs the end that is left of it, and these alone weigh something.
                self.assertEqual(sorted(told[0]), [word[:cut] for cut in range(rooms)])
                self.assertEqual(sorted(told[1]), sorted(word[cut:] for cut in range(rooms)))

    def test_many_rooms(self):
        for signs in (1, 2, 4):
            machine = chance_machine(142, 12, signs)
            large = disguised(with_idle_rooms(machine, 6, 6, 143), 144, 30)
            small = check_within(self, 10, lambda: smallest(large))
            self.assertEqual(looked(small), (12, signs))
            self.assertIs(check_within(self, 10, lambda: alike(large, small)), True)
            told = check_within(self, 10, lambda: witnesses(large))
            self.assertEqual(rank_of_rows(table_of_weights(machine, told[0], told[1])), 12)
            self.assertEqual(check_within(self, 10, lambda: rank(chance_machine(145, 24, signs))), 24)

    def test_late_pairs(self):
        one, other = late_pair(10, 10)
        self.assertEqual(check_within(self, 10, lambda: rank(added(one, scaled(other, (-1, 1))))), 20)


if __name__ == "__main__":
    unittest.main()
