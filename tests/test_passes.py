"""handpiles.passes against the definitions: promises [2], [3], [5] and [9]."""

import unittest
from itertools import product

from handpiles.errors import InvalidHand
from handpiles.hands import fronts, piles_of, plain_way
from handpiles.passes import at_rest, chained, greatest_rest, needed, one_instead, pass_once
from tests.reference import (GREAT, check_habits, check_refused, hands_for, long_rows, mixed, piles, small_rows)

ROW = [5, 2, 8, 1, 9, 3]
OF_HANDS = [needed, one_instead]
CHAINS = [[], [1], [2], [1, 1], [2, 2], [2, 4], [4, 2], [3, 2, 3, 4], [1, 2, 3], [3, 2, 1], [GREAT], [2, GREAT, 3],
          [2] * 12, [5, 1, 5, 6, 6, 2, 7, 1, 24, 25, 24, 2], list(range(1, 13)), list(range(12, 0, -1))]
REFUSED = [([0], 0), ([-1], -1), ([-GREAT], -GREAT), ([0, -1], 0), ([-1, 0], -1), ([2, 0], 0), ([2, -3, 0], -3),
           ([4, 4, 4, -2], -2), ([GREAT] * 11 + [0], 0)]


def rows():
    return [row[:24] for row in long_rows()] + small_rows(4, 3) + [mixed(24, 9, start) for start in range(5)]


def once(row, hand):
    """One pass, by the piles one behind another."""
    return [card for pile in piles(row, hand) for card in pile]


def chain(row, hands):
    for hand in hands:
        row = once(row, hand)
    return list(row)


def stretches(row):
    """The numbers of the cards in the first stretch, the first two and so on."""
    ends = [at + 1 for at in range(len(row)) if at + 1 == len(row) or row[at + 1] < row[at]]
    return ends


class Passes(unittest.TestCase):

    def test_pass_once_and_at_rest(self):
        answers = set()
        for row in rows():
            for hand in hands_for(row):
                wanted = once(row, hand)
                self.assertEqual(pass_once(row, hand), wanted)
                self.assertIs(at_rest(row, hand), wanted == row)
                answers.add(wanted == row)
        self.assertEqual(answers, {True, False})

    def test_greatest_rest(self):
        for row in rows():
            sizes = [hand for hand in range(1, len(row) + 1) if once(row, hand) == row]
            self.assertEqual(greatest_rest(row), max(sizes, default=0))

    def test_edges(self):
        for hand in (1, 2, GREAT):
            self.assertEqual(pass_once([], hand), [])
            self.assertIs(at_rest([], hand), True)
            self.assertEqual(pass_once([-GREAT], hand), [-GREAT])
            self.assertIs(at_rest([-GREAT], hand), True)
            self.assertEqual(pass_once([4, 4, 4], hand), [4, 4, 4])
            self.assertIs(at_rest([4, 4, 4], hand), True)
        self.assertEqual(greatest_rest([]), 0)
        self.assertEqual(greatest_rest([9]), 1)
        self.assertEqual(greatest_rest([4, 4, 4]), 3)
        self.assertEqual(greatest_rest([1, 2, 3, 4]), 4)
        self.assertEqual(greatest_rest([2, 3, 4, 1]), 3)
        self.assertEqual(greatest_rest([4, 3]), 1)

    def test_a_pass_is_laid_again_in_the_same_order_on_the_same_piles(self):
        for row in rows():
            for hand in hands_for(row):
                passed = pass_once(row, hand)
                laid = piles_of(row, hand)
                for again in sorted({1, 2, 3, max(1, hand - 1), hand}):
                    if again > hand:
                        continue
                    self.assertEqual(pass_once(passed, again), passed)
                    self.assertIs(at_rest(passed, again), True)
                    self.assertEqual(piles_of(passed, again), laid)
                    self.assertEqual([index for index, _ in plain_way(passed, again)], list(range(len(row))))


class Chains(unittest.TestCase):

    def test_chained(self):
        for row in rows():
            for hands in CHAINS:
                self.assertEqual(chained(row, hands), chain(row, hands))

    def test_a_chain_of_one_and_of_none(self):
        for row in rows():
            self.assertEqual(chained(row, []), row)
            for hand in (1, 2, GREAT):
                self.assertEqual(chained(row, [hand]), pass_once(row, hand))

    def test_the_order_matters(self):
        self.assertEqual(chained(ROW, [2, 4]), [2, 5, 8, 9, 1, 3])
        self.assertEqual(chained(ROW, [4, 2]), [1, 2, 3, 5, 8, 9])

    def test_needed(self):
        for hands in CHAINS + [list(told) for many in range(6) for told in product(range(1, 5), repeat=many)]:
            wanted = [hand for place, hand in enumerate(hands) if all(hand > other for other in hands[:place])]
            self.assertEqual(needed(hands), wanted)

    def test_needed_does_the_same_to_every_row(self):
        for row in rows():
            for hands in CHAINS:
                self.assertEqual(chained(row, needed(hands)), chained(row, hands))

    def test_one_instead(self):
        self.assertEqual(one_instead([]), 1)
        self.assertEqual(one_instead([1]), 1)
        self.assertEqual(one_instead([1] * 12), 1)
        self.assertEqual(one_instead([7]), 7)
        self.assertEqual(one_instead([2, 4]), 5)
        self.assertEqual(one_instead([GREAT, GREAT, 2]), 2 * GREAT)
        for hands in CHAINS:
            self.assertEqual(one_instead(hands), sum(hands) - len(hands) + 1)

    def test_one_instead_does_no_less_than_the_chain(self):
        for row in rows():
            for hands in CHAINS:
                mine = fronts(row, one_instead(hands))
                theirs = stretches(chained(row, hands))
                self.assertLessEqual(len(mine), len(theirs))
                self.assertTrue(all(one >= other for one, other in zip(mine, theirs)))


class Habits(unittest.TestCase):

    def test_by_position_by_name_and_new(self):
        for row in rows()[:20]:
            check_habits(self, greatest_rest, row=row)
            for hand in (1, 2, GREAT):
                check_habits(self, pass_once, row=row, hand=hand)
                check_habits(self, at_rest, row=row, hand=hand)
            for hands in CHAINS:
                check_habits(self, chained, row=row, hands=hands)
        for hands in CHAINS:
            for function in OF_HANDS:
                check_habits(self, function, hands=hands)

    def test_what_is_returned_is_not_what_was_passed(self):
        for row in ([], [3], [1, 2]):
            self.assertIsNot(chained(row, []), row)
            self.assertIsNot(chained(row, [1]), row)
            self.assertIsNot(pass_once(row, 1), row)
        for hands in ([], [2], [1, 2]):
            self.assertIsNot(needed(hands), hands)


class Refused(unittest.TestCase):

    def test_hands_that_hold_nothing(self):
        for row in ([], [3], ROW):
            for hand in (0, -1, -GREAT):
                check_refused(self, InvalidHand, hand, pass_once, row, hand)
                check_refused(self, InvalidHand, hand, at_rest, row, hand)

    def test_the_first_size_of_a_list_that_holds_nothing(self):
        for hands, value in REFUSED:
            for row in ([], [3], ROW):
                check_refused(self, InvalidHand, value, chained, row, hands)
            for function in OF_HANDS:
                check_refused(self, InvalidHand, value, function, hands)

    def test_good_questions_behind_are_answered(self):
        check_refused(self, InvalidHand, 0, pass_once, ROW, 0)
        self.assertEqual(pass_once(ROW, 2), [2, 5, 8, 9, 1, 3])
        check_refused(self, InvalidHand, 0, at_rest, ROW, 0)
        self.assertIs(at_rest(ROW, 1), True)
        check_refused(self, InvalidHand, 0, chained, ROW, [2, 0])
        self.assertEqual(chained(ROW, [2]), [2, 5, 8, 9, 1, 3])
        check_refused(self, InvalidHand, -1, needed, [3, -1])
        self.assertEqual(needed([3, 2, 3, 4]), [3, 4])
        check_refused(self, InvalidHand, 0, one_instead, [0])
        self.assertEqual(one_instead([2, 4]), 5)


if __name__ == "__main__":
    unittest.main()
