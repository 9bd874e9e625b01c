"""handpiles.turns against the definitions: promises [2], [3] and [5]."""

import unittest
from itertools import product

from handpiles.errors import InvalidHand
from handpiles.hands import number_of_piles, piles_of
from handpiles.turns import by_turns, least_turned, piles_turned
from tests.reference import (GREAT, check_habits, check_refused, fronts_in, hand_behind, hands_for, long_rows, mixed,
                             piles_met, small_rows)

ROW = [5, 2, 8, 1, 9, 3]
DOWNS = [[], [True], [False], [False, True], [True, True], [True, False, True], [False, False, True, True],
         [True] * 60, [False] * 60, [True, False] * 30]


def directions(most):
    """All lists of at most so many truth values, the shorter ones first, False before True."""
    return [list(told) for many in range(most + 1) for told in product((False, True), repeat=many)]


def turned_piles(row, hand, downs):
    return piles_met(row, [hand], downs)[0]


def turned_ways(row, hand, downs):
    """All ways that keep to the directions of their piles."""
    found = [[]]
    for _ in row:
        longer = []
        for way in found:
            for index in hand_behind(row, hand, way):
                if not way:
                    longer.append([(index, 0)])
                    continue
                last, pile = way[-1]
                longer.append(way + [(index, pile + 1)])
                down = pile < len(downs) and downs[pile]
                if row[index] <= row[last] if down else row[index] >= row[last]:
                    longer.append(way + [(index, pile)])
        found = longer
    return found


def least(row, hand):
    """The least number of piles and the least list that gives it, by trying each list."""
    fewest = min(len(turned_piles(row, hand, downs)) for downs in directions(len(row)))
    for downs in product((False, True), repeat=fewest):
        if len(turned_piles(row, hand, list(downs))) == fewest:
            return fewest, list(downs)


class Turned(unittest.TestCase):

    def test_long_rows(self):
        for row in long_rows():
            for hand in hands_for(row):
                for downs in DOWNS:
                    self.assertEqual(piles_turned(row, hand, downs), turned_piles(row, hand, downs))

    def test_few_cards_with_each_list(self):
        for row in small_rows(4, 3) + [ROW]:
            for hand in range(1, len(row) + 2):
                for downs in directions(len(row) + 1):
                    self.assertEqual(piles_turned(row, hand, downs), turned_piles(row, hand, downs))

    def test_no_pile_descends(self):
        for row in long_rows():
            for hand in hands_for(row):
                for downs in ([], [False], [False] * 60):
                    self.assertEqual(piles_turned(row, hand, downs), piles_of(row, hand))

    def test_all_piles_descend(self):
        for row in long_rows():
            for hand in hands_for(row):
                mirrored = [[-card for card in pile] for pile in piles_of([-card for card in row], hand)]
                self.assertEqual(piles_turned(row, hand, [True] * len(row)), mirrored)

    def test_edges(self):
        for hand in (1, 2, GREAT):
            for downs in DOWNS:
                self.assertEqual(piles_turned([], hand, downs), [])
                self.assertEqual(piles_turned([-GREAT], hand, downs), [[-GREAT]])
                self.assertEqual(piles_turned([4, 4, 4], hand, downs), [[4, 4, 4]])
        self.assertEqual(piles_turned([1, 2, 3], 3, [True]), [[3, 2, 1]])
        self.assertEqual(piles_turned([1, 2, 3], 1, [True]), [[1], [2, 3]])
        self.assertEqual(piles_turned([1, 2, 3], 1, [True, True]), [[1], [2], [3]])
        # A list longer than the piles tells no more.
        self.assertEqual(piles_turned([3, 2, 1], 1, [True, True, False, True]), [[3, 2, 1]])
        # A descending pile begins with the greatest card, an ascending one with the least.
        self.assertEqual(piles_turned([2, 9, 1, 8], 2, [False, True]), [[2, 9], [8, 1]])
        self.assertEqual(piles_turned([5, 6, 1, 7, 4], 1, [False, True, False]), [[5, 6], [1], [7], [4]])

    def test_by_turns(self):
        for row in long_rows() + small_rows(4, 3):
            for hand in hands_for(row):
                self.assertEqual(by_turns(row, hand), turned_piles(row, hand, [False, True] * 30))
        self.assertEqual(by_turns([], 1), [])
        self.assertEqual(by_turns([3, 2, 1], 1), [[3], [2, 1]])
        self.assertEqual(by_turns(list(range(60, 0, -1)), 1), [[60], list(range(59, 0, -1))])

    def test_more_piles_than_the_limit_turn(self):
        row = [1, 2] * 40
        self.assertEqual(by_turns(row, 1), turned_piles(row, 1, [False, True] * 80))

    def test_no_way_with_these_directions_has_more_cards_by_then(self):
        for row in small_rows(3, 3) + [[2, 0, 3, 1], [1, 1, 0, 2], [3, 1, 3, 0]]:
            for hand in range(1, len(row) + 1):
                for downs in directions(3):
                    cards = [len(pile) for pile in piles_turned(row, hand, downs)]
                    mine = [sum(cards[:which + 1]) for which in range(len(cards))]
                    for way in turned_ways(row, hand, downs):
                        theirs = fronts_in(way)
                        self.assertLessEqual(len(mine), len(theirs))
                        self.assertTrue(all(one >= other for one, other in zip(mine, theirs)))


class Least(unittest.TestCase):

    def check(self, row, hand):
        found = least_turned(row, hand)
        self.assertEqual(found, least(row, hand))
        number, downs = found
        self.assertTrue(isinstance(found, tuple) and len(downs) == number)
        self.assertTrue(all(down is True or down is False for down in downs))
        self.assertEqual(len(piles_turned(row, hand, downs)), number)
        self.assertLessEqual(number, number_of_piles(row, hand))

    def test_few_cards(self):
        for row in small_rows(5, 3) + [ROW, ROW[::-1]]:
            for hand in range(1, len(row) + 2):
                self.check(row, hand)

    def test_ten_cards(self):
        for row in [mixed(10, 7, 1), mixed(10, 100, 2), [0, 9, 1, 8, 2, 7, 3, 6, 4, 5], list(range(10, 0, -1))]:
            for hand in (1, 2, 3, 10, GREAT):
                self.check(row, hand)
        self.check([GREAT, -GREAT, 0, GREAT - 1, -GREAT + 1, 1, -1, GREAT, 2], 1)

    def test_edges(self):
        for hand in (1, 2, GREAT):
            self.assertEqual(least_turned([], hand), (0, []))
            self.assertEqual(least_turned([-GREAT], hand), (1, [False]))
            self.assertEqual(least_turned([4, 4, 4], hand), (1, [False]))
        self.assertEqual(least_turned([2, 1], 1), (1, [True]))
        self.assertEqual(least_turned([1, 2], 1), (1, [False]))
        # False comes before True at the first pile that matters.
        self.assertEqual(least_turned([1, 2, 1], 1), (2, [False, False]))
        self.assertEqual(least_turned([2, 1, 2], 1), (2, [False, False]))
        self.assertEqual(least_turned([2, 1, 2, 3], 1), (2, [False, False]))
        self.assertEqual(least_turned([3, 2, 1, 2, 0], 1), (2, [True, True]))

    def test_more_cards_than_the_limit(self):
        self.check(mixed(12, 9, 4), 2)


class Habits(unittest.TestCase):

    def test_by_position_by_name_and_new(self):
        for row in long_rows():
            for hand in (1, 2, GREAT):
                check_habits(self, by_turns, row=row, hand=hand)
                for downs in DOWNS:
                    check_habits(self, piles_turned, row=row, hand=hand, downs=downs)
        for row in small_rows(3, 3) + [ROW]:
            for hand in (1, 2, GREAT):
                check_habits(self, least_turned, row=row, hand=hand)


class Refused(unittest.TestCase):

    def test_hands_that_hold_nothing(self):
        for row in ([], [3], ROW):
            for hand in (0, -1, -GREAT):
                check_refused(self, InvalidHand, hand, least_turned, row, hand)
                check_refused(self, InvalidHand, hand, by_turns, row, hand)
                for downs in DOWNS:
                    check_refused(self, InvalidHand, hand, piles_turned, row, hand, downs)

    def test_good_questions_behind_are_answered(self):
        check_refused(self, InvalidHand, 0, piles_turned, ROW, 0, [True])
        self.assertEqual(piles_turned(ROW, 2, [True]), [[5, 2, 1], [8, 9], [3]])
        check_refused(self, InvalidHand, 0, least_turned, ROW, 0)
        self.assertEqual(least_turned(ROW, 2), (2, [False, False]))
        check_refused(self, InvalidHand, -1, by_turns, ROW, -1)
        self.assertEqual(by_turns(ROW, 1), [[5], [2], [8], [1], [9], [3]])


if __name__ == "__main__":
    unittest.main()
