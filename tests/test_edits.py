"""handpiles.edits against trying each case: promises [2], [3], [5] and [9]."""

import unittest
from itertools import product

from handpiles.edits import (best_exchange, best_in, best_out, first_outs, least_outs, piles_with,
                             piles_without)
from handpiles.errors import InvalidHand, InvalidNumber
from handpiles.hands import number_of_piles
from tests.reference import GREAT, check_habits, check_refused, hands_for, long_rows, mixed, number, small_rows

FAR = 10 ** 39 + 1  # 40 digits
ROW = [2, 1, 3, 0]
WITH_HAND = [piles_without, best_out, best_exchange]
WITH_CARD = [piles_with, best_in]
WITH_MOST = [least_outs, first_outs]


def rows():
    """Rows of at most 16 cards, also with equal ones."""
    return ([row[:16] for row in long_rows()] + small_rows(4, 3) + [mixed(16, 7, 4), mixed(15, 1000, 6)])


def cards_for(row):
    """Cards that stand below, between, beside and above those of a row."""
    return sorted({card + more for card in row for more in (-1, 0, 1)} | {0, GREAT, -GREAT})


def without(row, outs):
    return [card for index, card in enumerate(row) if index not in outs]


def first_least(numbers):
    """The index of the least number, found one by one."""
    best = None
    for index, many in enumerate(numbers):
        if best is None or many < numbers[best]:
            best = index
    return best


def all_outs(row, hand, most):
    """All ascending lists of indexes without which there are at most so many piles."""
    found = []
    for stays in product((True, False), repeat=len(row)):
        outs = [index for index, stay in enumerate(stays) if not stay]
        if number(without(row, outs), hand) <= most:
            found.append(outs)
    return found


class OneCard(unittest.TestCase):

    def test_out(self):
        for row in rows():
            for hand in hands_for(row):
                numbers = [number(row[:index] + row[index + 1:], hand) for index in range(len(row))]
                self.assertEqual(piles_without(row, hand), numbers)
                self.assertEqual(best_out(row, hand), first_least(numbers))

    def test_in(self):
        for row in small_rows(3, 3) + [[5, 2, 8, 1, 9, 3], [4, 4, 2, 2], mixed(16, 7, 4), [GREAT, -GREAT]]:
            for hand in hands_for(row):
                for card in cards_for(row)[:12]:
                    numbers = [number(row[:index] + [card] + row[index:], hand) for index in range(len(row) + 1)]
                    self.assertEqual(piles_with(row, hand, card), numbers)
                    self.assertEqual(best_in(row, hand, card), first_least(numbers))

    def test_exchange(self):
        answers = set()
        for row in rows():
            for hand in hands_for(row):
                wanted = None
                for index in reversed(range(len(row) - 1)):
                    exchanged = list(row)
                    exchanged[index], exchanged[index + 1] = row[index + 1], row[index]
                    if number(exchanged, hand) < number(row, hand):
                        wanted = index
                self.assertEqual(best_exchange(row, hand), wanted)
                answers.add(wanted)
        self.assertTrue(answers > {None, 0, 1, 2})

    def test_edges(self):
        for hand in (1, 2, GREAT):
            self.assertEqual(piles_without([], hand), [])
            self.assertIs(best_out([], hand), None)
            self.assertEqual(piles_with([], hand, -GREAT), [1])
            self.assertEqual(best_in([], hand, -GREAT), 0)
            self.assertIs(best_exchange([], hand), None)
            self.assertEqual(piles_without([7], hand), [0])
            self.assertEqual(best_out([7], hand), 0)
            self.assertEqual(piles_with([7], hand, 7), [1, 1])
            self.assertIs(best_exchange([7], hand), None)
            self.assertEqual(piles_without([4, 4], hand), [1, 1])
            self.assertEqual(best_in([4, 4], hand, 4), 0)
            self.assertIs(best_exchange([4, 4], hand), None)
        self.assertEqual(best_exchange([1, 2, 4, 3], 1), 2)
        self.assertEqual(best_out([1, 2, 0], 1), 2)
        self.assertEqual(best_in([1, 2, 3], 1, 4), 3)
        self.assertEqual(best_exchange([2, 1], 1), 0)
        self.assertIs(best_exchange([2, 1], 2), None)

    def test_a_card_out_lessens_by_one_at_most_and_one_in_adds_one_at_most(self):
        for row in rows():
            for hand in hands_for(row):
                piles = number_of_piles(row, hand)
                self.assertTrue({piles - many for many in piles_without(row, hand)} <= {0, 1})
                for card in cards_for(row)[:6]:
                    added = {many - piles for many in piles_with(row, hand, card)}
                    self.assertTrue(added <= {0, 1})
                    if row:
                        self.assertIn(0, added)
                        place = best_in(row, hand, card)
                        self.assertEqual(number_of_piles(row[:place] + [card] + row[place:], hand), piles)


class Outs(unittest.TestCase):

    def check(self, row, hand, most):
        found = all_outs(row, hand, most)
        least = min(len(outs) for outs in found)
        self.assertEqual(least_outs(row, hand, most), least)
        self.assertEqual(first_outs(row, hand, most), min(outs for outs in found if len(outs) == least))

    def test_few_cards(self):
        for row in small_rows(4, 3) + [[5, 2, 8, 1, 9, 3], [3, 3, 1, 1, 2, 0]]:
            for hand in sorted({1, 2, 3, len(row) + 1}):
                for most in sorted({1, 2, 3, len(row) + 1}):
                    self.check(row, hand, most)

    def test_eight_cards(self):
        for row in (mixed(8, 5, 1), mixed(8, 100, 3), list(range(8, 0, -1)), [4] * 8, [GREAT, 0] * 4):
            for hand, most in ((1, 1), (1, 2), (1, 3), (2, 1), (2, 2), (3, 1), (GREAT, 1), (1, FAR)):
                self.check(row, hand, most)

    def test_edges(self):
        for hand in (1, 2, GREAT):
            for most in (1, 2, FAR):
                self.assertEqual(least_outs([], hand, most), 0)
                self.assertEqual(first_outs([], hand, most), [])
                self.assertEqual(first_outs([7], hand, most), [])
        self.assertEqual(first_outs([3, 2, 1], 1, 1), [0, 1])
        self.assertEqual(first_outs([3, 2, 1], 1, 2), [0])
        self.assertEqual(first_outs([3, 2, 1], 1, 3), [])
        self.assertEqual(first_outs([1, 2, 1, 2], 1, 1), [1])
        self.assertEqual(least_outs([1, 2, 1, 2], 2, 1), 0)


class Habits(unittest.TestCase):

    def test_by_position_and_by_name(self):
        for row in ([], [3], [4, 4, 1], ROW):
            for hand in (1, 2, GREAT):
                for function in WITH_HAND:
                    check_habits(self, function, row=row, hand=hand)
                for function in WITH_CARD:
                    check_habits(self, function, row=row, hand=hand, card=2)
                for function in WITH_MOST:
                    check_habits(self, function, row=row, hand=hand, most=1)
        self.assertEqual(piles_with(card=4, hand=1, row=ROW), [4, 3, 4, 3, 3])
        self.assertEqual(first_outs(most=1, hand=1, row=ROW), [0, 3])


class Refused(unittest.TestCase):

    def test_hands_ahead_of_all_else(self):
        for hand in (0, -1, -GREAT):
            for row in ([], [3], ROW):
                for function in WITH_HAND:
                    check_refused(self, InvalidHand, hand, function, row, hand)
                for function in WITH_CARD:
                    check_refused(self, InvalidHand, hand, function, row, hand, 4)
                for function in WITH_MOST:
                    for most in (1, 2, 0, -1):
                        check_refused(self, InvalidHand, hand, function, row, hand, most)

    def test_numbers_of_piles(self):
        for most in (0, -1, -FAR):
            for row in ([], [3], ROW):
                for hand in (1, GREAT):
                    for function in WITH_MOST:
                        check_refused(self, InvalidNumber, most, function, row, hand, most)

    def test_good_questions_behind_are_answered(self):
        check_refused(self, InvalidNumber, 0, least_outs, ROW, 1, 0)
        self.assertEqual(least_outs(ROW, 1, 1), 2)
        check_refused(self, InvalidHand, 0, piles_without, ROW, 0)
        self.assertEqual(piles_without(ROW, 1), [2, 2, 3, 2])


if __name__ == "__main__":
    unittest.main()
