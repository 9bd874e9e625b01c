"""handpiles.orders against all orders, laid one by one: promises [2], [3], [5] and [9]."""

import unittest
from collections import Counter
from fractions import Fraction
from itertools import permutations, product

from handpiles.errors import InvalidHand, InvalidNumber
from handpiles.hands import piles_of
from handpiles.orders import are_lengths, counts, first_order, lengths_counted, mean, row_of_lengths
from tests.reference import GREAT, check_habits, check_refused, piles

FAR = 10 ** 39 + 1  # 40 digits
HANDS = [1, 2, 3, 4, 5, 7, GREAT]
NUMBERS = [(number, hand) for number in range(5) for hand in HANDS] + [(5, 1), (5, 2), (5, 3), (6, 2), (6, GREAT)]
OF_NUMBER = [counts, mean, lengths_counted]


def laid_orders(number, hand):
    """All orders ascending, each with its piles."""
    return [(list(order), piles(list(order), hand)) for order in permutations(range(number))]


def lengths_by_words(lengths, hand):
    """Tell if integers are lengths of piles, by the words of the document."""
    for index, length in enumerate(lengths):
        if length < 1:
            return False
        if index < len(lengths) - 1 and length < hand:
            return False
    return True


class Orders(unittest.TestCase):

    def test_against_all_orders(self):
        for number, hand in NUMBERS:
            laid = laid_orders(number, hand)
            numbers = Counter(len(told) for _, told in laid)
            self.assertEqual(counts(number, hand), [numbers[many] for many in range(number + 1)])
            wanted = Fraction(sum(len(told) for _, told in laid), len(laid))
            self.assertEqual(mean(number, hand), (wanted.numerator, wanted.denominator))
            for many in list(range(-2, number + 3)) + [-FAR, FAR]:
                least = min([order for order, told in laid if len(told) == many], default=None)
                self.assertEqual(first_order(number, hand, many), least)
            lengths = Counter(tuple(len(pile) for pile in told) for _, told in laid)
            wanted = [(list(found), lengths[found]) for found in sorted(lengths)]
            self.assertEqual(lengths_counted(number, hand), wanted)

    def test_kinds(self):
        self.assertIsInstance(mean(3, 2), tuple)
        self.assertIsInstance(mean(0, 2), tuple)
        for lengths, orders in lengths_counted(4, 2):
            self.assertIsInstance(lengths, list)
            self.assertIsInstance(orders, int)
        self.assertTrue(all(isinstance(pair, tuple) for pair in lengths_counted(4, 2)))
        self.assertIsInstance(first_order(3, 2, 2), list)

    def test_no_cards_and_one(self):
        for hand in HANDS:
            self.assertEqual(counts(0, hand), [1])
            self.assertEqual(mean(0, hand), (0, 1))
            self.assertEqual(first_order(0, hand, 0), [])
            self.assertIs(first_order(0, hand, 1), None)
            self.assertEqual(lengths_counted(0, hand), [([], 1)])
            self.assertEqual(counts(1, hand), [0, 1])
            self.assertEqual(mean(1, hand), (1, 1))
            self.assertEqual(first_order(1, hand, 1), [0])
            self.assertIs(first_order(1, hand, 0), None)
            self.assertEqual(lengths_counted(1, hand), [([1], 1)])

    def test_by_hand(self):
        self.assertEqual(counts(2, 1), [0, 1, 1])
        self.assertEqual(mean(2, 1), (3, 2))
        self.assertEqual(first_order(4, 1, 4), [3, 2, 1, 0])
        self.assertEqual(first_order(4, 1, 2), [0, 1, 3, 2])
        self.assertEqual(lengths_counted(2, 1), [([1, 1], 1), ([2], 1)])
        # With the hand 1 these are the Eulerian numbers.
        self.assertEqual(counts(6, 1), [0, 1, 57, 302, 302, 57, 1])
        self.assertEqual(counts(6, 6), [0, 720, 0, 0, 0, 0, 0])
        self.assertEqual(mean(6, 1), (7, 2))


class Lengths(unittest.TestCase):

    def test_are_lengths_by_the_words(self):
        for many in range(5):
            for lengths in product(range(-2, 5), repeat=many):
                for hand in (1, 2, 3, GREAT):
                    self.assertIs(are_lengths(list(lengths), hand), lengths_by_words(lengths, hand))

    def test_lengths_are_those_that_come_about(self):
        for number in range(6):
            for hand in (1, 2, 3, 4, 6):
                come = {tuple(lengths) for lengths, _ in lengths_counted(number, hand)}
                for many in range(number + 2):
                    for lengths in product(range(number + 1), repeat=many):
                        if sum(lengths) == number:
                            self.assertIs(are_lengths(list(lengths), hand), lengths in come)

    def test_are_lengths_of_far_integers(self):
        self.assertIs(are_lengths([FAR, 1], GREAT), True)
        self.assertIs(are_lengths([GREAT, GREAT, 1], GREAT), True)
        self.assertIs(are_lengths([GREAT - 1, 1], GREAT), False)
        self.assertIs(are_lengths([GREAT - 1], GREAT), True)
        self.assertIs(are_lengths([-FAR], 1), False)
        self.assertIs(are_lengths([FAR, -FAR], 1), False)
        self.assertIs(are_lengths([1, 0], 1), False)
        self.assertIs(are_lengths([0, 1], 1), False)
        self.assertIs(are_lengths([0], 1), False)
        self.assertIs(are_lengths([-1], 1), False)
        self.assertIs(are_lengths([], GREAT), True)

    def check_row(self, lengths, hand):
        found = row_of_lengths(lengths, hand)
        if not lengths_by_words(lengths, hand):
            self.assertIs(found, None)
            return
        blocks = []
        least = sum(lengths)
        for length in lengths:
            least -= length
            blocks.append(list(range(least, least + length)))
        self.assertEqual(found, [card for block in blocks for card in block])
        self.assertEqual(piles(found, hand), blocks)

    def test_rows_of_lengths(self):
        for many in range(5):
            for lengths in product(range(-1, 5), repeat=many):
                for hand in (1, 2, 3, GREAT):
                    self.check_row(list(lengths), hand)

    def test_rows_of_many_cards(self):
        for lengths in ([60], [1] * 60, [30, 30], [20, 19, 21], [12] * 5, [7, 8, 9, 10, 11, 12, 3], [59, 1]):
            for hand in (1, 2, 7, 12, 19, 20, 30, 31, 59, 60, 61, GREAT):
                self.check_row(lengths, hand)

    def test_edges(self):
        for hand in HANDS:
            self.assertEqual(row_of_lengths([], hand), [])
            self.assertEqual(row_of_lengths([1], hand), [0])
            self.assertEqual(row_of_lengths([3], hand), [0, 1, 2])
            self.assertIs(row_of_lengths([0], hand), None)
            self.assertIs(row_of_lengths([2, 0], hand), None)
            self.assertIs(row_of_lengths([3, -1], hand), None)
        self.assertEqual(row_of_lengths([1, 1, 1], 1), [2, 1, 0])
        self.assertIs(row_of_lengths([1, 1, 1], 2), None)
        self.assertEqual(row_of_lengths([2, 1], 2), [1, 2, 0])


class Habits(unittest.TestCase):

    def test_by_position_and_by_name(self):
        for number, hand in ((0, 1), (1, 2), (3, 2), (4, GREAT)):
            for function in OF_NUMBER:
                check_habits(self, function, number=number, hand=hand)
            for many in (0, 1, 2, 5):
                check_habits(self, first_order, number=number, hand=hand, many=many)
        for lengths in ([], [3], [2, 3, 1], [0, 1], [1, 2]):
            for hand in (1, 2, GREAT):
                check_habits(self, are_lengths, lengths=lengths, hand=hand)
                check_habits(self, row_of_lengths, lengths=lengths, hand=hand)
        self.assertEqual(first_order(many=2, hand=2, number=3), [1, 2, 0])
        self.assertEqual(piles_of(row_of_lengths(hand=2, lengths=[2, 1]), 2), [[1, 2], [0]])


class Refused(unittest.TestCase):

    def test_numbers_ahead_of_hands(self):
        for number in (-1, -2, -FAR):
            for hand in (2, GREAT, 0, -1):
                for function in OF_NUMBER:
                    check_refused(self, InvalidNumber, number, function, number, hand)
                for many in (-1, 0, 2):
                    check_refused(self, InvalidNumber, number, first_order, number, hand, many)

    def test_hands(self):
        for hand in (0, -1, -GREAT):
            for number in (0, 1, 4):
                for function in OF_NUMBER:
                    check_refused(self, InvalidHand, hand, function, number, hand)
                for many in (-1, 0, 2):
                    check_refused(self, InvalidHand, hand, first_order, number, hand, many)
            for lengths in ([], [2, 3, 1], [0], [-1, 4]):
                check_refused(self, InvalidHand, hand, are_lengths, lengths, hand)
                check_refused(self, InvalidHand, hand, row_of_lengths, lengths, hand)

    def test_good_questions_behind_are_answered(self):
        check_refused(self, InvalidNumber, -1, counts, -1, 1)
        self.assertEqual(counts(3, 1), [0, 1, 4, 1])
        check_refused(self, InvalidHand, 0, row_of_lengths, [2, 3, 1], 0)
        self.assertEqual(row_of_lengths([2, 3, 1], 2), [4, 5, 1, 2, 3, 0])


if __name__ == "__main__":
    unittest.main()
