"""handpiles.hands against the definitions: promises [2], [4] to [7] and [9]."""

import copy
import unittest

from handpiles.errors import InvalidHand, InvalidNumber
from handpiles.hands import (card_keys, fronts, hands_met, least_hand, number_of_piles, piles_of,
                             plain_way, sizes)
from tests import reference
from tests.reference import GREAT, hands_for, lists_inside, long_rows, small_rows

WITH_HAND = [plain_way, piles_of, fronts, hands_met, card_keys, number_of_piles]
ROW = [5, 2, 8, 1, 9, 3]


def cases():
    """Rows with the sizes that matter for them."""
    rows = long_rows() + small_rows(5, 3) + small_rows(4, 4)
    return [(row, hand) for row in rows for hand in hands_for(row)]


class PlainWay(unittest.TestCase):

    def test_ways_are_as_defined(self):
        for row, hand in cases():
            way = plain_way(row, hand)
            self.assertEqual(way, reference.plain(row, hand))
            self.assertTrue(all(isinstance(entry, tuple) for entry in way))

    def test_equal_cards_by_their_indexes(self):
        self.assertEqual(plain_way([4, 4, 4, 4], 2), [(0, 0), (1, 0), (2, 0), (3, 0)])
        self.assertEqual(plain_way([3, 1, 1, 1], 3), [(1, 0), (2, 0), (3, 0), (0, 0)])
        # Two equal cards are left over for a new pile.
        self.assertEqual(plain_way([9, 1, 1], 1), [(0, 0), (1, 1), (2, 1)])
        self.assertEqual(plain_way([9, 8, 1, 1], 2), [(1, 0), (0, 0), (2, 1), (3, 1)])

    def test_one_card_and_none(self):
        for hand in (1, 2, GREAT):
            self.assertEqual(plain_way([], hand), [])
            self.assertEqual(plain_way([-GREAT], hand), [(0, 0)])

    def test_a_card_drawn_too_late_waits_for_the_next_pile(self):
        self.assertEqual(plain_way([2, 3, 1], 2), [(0, 0), (1, 0), (2, 1)])
        self.assertEqual(plain_way([2, 3, 1], 3), [(2, 0), (0, 0), (1, 0)])

    def test_row_longer_than_the_limit(self):
        row = list(range(80, 0, -1))
        self.assertEqual(plain_way(row, 3), reference.plain(row, 3))


class Answers(unittest.TestCase):

    def test_piles(self):
        for row, hand in cases():
            way = reference.plain(row, hand)
            wanted = [[row[index] for index, pile in way if pile == which]
                      for which in range(reference.number(row, hand))]
            self.assertEqual(piles_of(row, hand), wanted)

    def test_fronts(self):
        for row, hand in cases():
            self.assertEqual(fronts(row, hand), reference.fronts_in(reference.plain(row, hand)))

    def test_hands_met(self):
        for row, hand in cases():
            way = reference.plain(row, hand)
            wanted = [reference.hand_behind(row, hand, way[:laid]) for laid in range(len(row))]
            self.assertEqual(hands_met(row, hand), wanted)

    def test_card_keys(self):
        for row, hand in cases():
            found = card_keys(row, hand)
            self.assertEqual(found, reference.keys(row, hand))
            self.assertTrue(all(isinstance(key, tuple) for key in found))

    def test_card_keys_order_the_plain_way(self):
        for row, hand in cases():
            ordered = sorted((key, index) for index, key in enumerate(card_keys(row, hand)))
            self.assertEqual(plain_way(row, hand), [(index, key[0]) for key, index in ordered])

    def test_number_of_piles(self):
        for row, hand in cases():
            self.assertEqual(number_of_piles(row, hand), reference.number(row, hand))


class Sizes(unittest.TestCase):

    def test_least_hand(self):
        for row in long_rows() + small_rows(4, 3):
            numbers = [reference.number(row, hand) for hand in range(1, len(row) + 2)]
            for most in list(range(1, len(row) + 2)) + [10 ** 39]:
                wanted = 1 + [number <= most for number in numbers].index(True)
                self.assertEqual(least_hand(row, most), wanted)

    def test_least_hand_edges(self):
        self.assertEqual(least_hand([], 1), 1)
        self.assertEqual(least_hand([3], 1), 1)
        self.assertEqual(least_hand([2, 1], 1), 2)
        self.assertEqual(least_hand([2, 1], 2), 1)
        self.assertEqual(least_hand(list(range(60, 0, -1)), 1), 60)
        self.assertEqual(least_hand(list(range(60, 0, -1)), 10 ** 39 + 1), 1)

    def test_sizes(self):
        for row in long_rows() + small_rows(5, 3):
            wanted = [(1, reference.number(row, 1))]
            for hand in range(2, len(row) + 3):
                number = reference.number(row, hand)
                if number < reference.number(row, hand - 1):
                    wanted.append((hand, number))
            self.assertEqual(sizes(row), wanted)

    def test_sizes_of_descending_rows(self):
        self.assertEqual(sizes([4, 3, 2, 1]), [(1, 4), (2, 2), (4, 1)])
        self.assertEqual(sizes([5, 4, 3, 2, 1]), [(1, 5), (2, 3), (3, 2), (5, 1)])
        found = dict(sizes(list(range(60, 0, -1))))
        for hand in range(1, 62):
            number = found[max(size for size in found if size <= hand)]
            self.assertEqual(number, (60 + hand - 1) // hand)

    def test_sizes_edges(self):
        self.assertEqual(sizes([]), [(1, 0)])
        self.assertEqual(sizes([8]), [(1, 1)])
        self.assertEqual(sizes([1, 1, 1]), [(1, 1)])
        self.assertEqual(sizes([2, 1]), [(1, 2), (2, 1)])


class Guarantees(unittest.TestCase):

    def test_no_way_lays_a_card_on_a_lesser_pile(self):
        for row in small_rows(4, 3) + [[3, 1, 4, 2, 0], [2, 2, 1, 1, 0]]:
            for hand in range(1, len(row) + 2):
                least = dict(plain_way(row, hand))
                fewest = number_of_piles(row, hand)
                ahead = fronts(row, hand)
                for way in reference.all_ways(row, hand):
                    self.assertTrue(all(pile >= least[index] for index, pile in way))
                    others = reference.fronts_in(way)
                    self.assertGreaterEqual(len(others), fewest)
                    self.assertTrue(all(one >= other for one, other in zip(ahead, others)))

    def test_a_greater_hand_lays_no_card_on_a_greater_pile(self):
        for row in long_rows() + small_rows(5, 3):
            before = dict(plain_way(row, 1))
            for hand in list(range(2, len(row) + 2)) + [GREAT]:
                now = dict(plain_way(row, hand))
                self.assertTrue(all(now[index] <= before[index] for index in now))
                before = now

    def test_each_pile_but_the_last_has_a_handful(self):
        for row, hand in cases():
            piles = piles_of(row, hand)
            self.assertTrue(all(len(pile) >= hand for pile in piles[:-1]))
            self.assertLessEqual(len(piles), (len(row) + hand - 1) // hand)

    def test_descending_rows_have_the_most_piles(self):
        for many in range(0, 61, 4):
            for hand in list(range(1, many + 2)) + [GREAT]:
                row = [GREAT - card for card in range(many)]
                self.assertEqual(number_of_piles(row, hand), (many + hand - 1) // hand)

    def test_just_one_pile(self):
        for row, hand in cases():
            far = [len([card for card in row[:index] if card > row[index]]) >= hand for index in range(len(row))]
            self.assertEqual(number_of_piles(row, hand) <= 1, not any(far))


class Lists(unittest.TestCase):

    def test_by_name(self):
        for function in WITH_HAND:
            self.assertEqual(function(row=ROW, hand=2), function(ROW, 2))
            self.assertEqual(function(hand=2, row=ROW), function(ROW, 2))
        self.assertEqual(least_hand(row=ROW, most=3), 2)
        self.assertEqual(least_hand(most=1, row=ROW), 4)
        self.assertEqual(sizes(row=ROW), [(1, 4), (2, 2), (4, 1)])

    def test_the_row_is_as_it_was(self):
        for row in long_rows():
            kept = copy.deepcopy(row)
            for hand in (1, 2, GREAT):
                for function in WITH_HAND:
                    function(row, hand)
                    self.assertEqual(row, kept)
            least_hand(row, 1)
            sizes(row)
            self.assertEqual(row, kept)

    def test_every_list_is_new_and_stands_in_one_place(self):
        for row in long_rows():
            calls = [(function, (row, hand)) for function in WITH_HAND for hand in (1, 2, GREAT)]
            for function, told in calls + [(sizes, (row,))]:
                first = function(*told)
                second = function(*told)
                lists = lists_inside(first) + lists_inside(second) + [row]
                self.assertEqual(len({id(one) for one in lists}), len(lists))

    def test_changed_answers_change_nothing(self):
        row = list(ROW)
        for function, told in [(function, (row, 2)) for function in WITH_HAND] + [(sizes, (row,))]:
            wanted = function(*told)
            if not isinstance(wanted, list):
                continue
            wanted = copy.deepcopy(wanted)
            for change in lists_inside(function(*told)):
                change.clear()
                self.assertEqual(function(*told), wanted)
                self.assertEqual(row, ROW)

    def test_changing_one_inner_list_changes_no_other(self):
        for function in (hands_met, piles_of):
            found = function(ROW, 2)
            wanted = copy.deepcopy(found)
            found[0].append(99)
            self.assertEqual(found[1:], wanted[1:])

    def test_the_row_may_change_between_two_questions(self):
        row = list(ROW)
        told = [function(row, 2) for function in WITH_HAND] + [sizes(row)]
        kept = copy.deepcopy(told)
        row.append(0)
        row[0] = -7
        self.assertEqual(told, kept)
        for function in WITH_HAND:
            self.assertEqual(function(row, 2), function([-7, 2, 8, 1, 9, 3, 0], 2))
        self.assertEqual(plain_way(row, 2), reference.plain([-7, 2, 8, 1, 9, 3, 0], 2))
        self.assertEqual(sizes(row), sizes([-7, 2, 8, 1, 9, 3, 0]))
        self.assertEqual(least_hand(row, 1), least_hand([-7, 2, 8, 1, 9, 3, 0], 1))


class Refused(unittest.TestCase):

    def test_hands_that_hold_nothing(self):
        for function in WITH_HAND:
            for row in ([], [3], list(ROW)):
                for hand in (0, -1, -2, -GREAT):
                    kept = list(row)
                    with self.assertRaises(InvalidHand) as caught:
                        function(row, hand)
                    self.assertEqual(caught.exception.value, hand)
                    self.assertEqual(row, kept)
                    with self.assertRaises(InvalidHand):
                        function(row=row, hand=hand)

    def test_numbers_that_are_too_small(self):
        for row in ([], [3], list(ROW)):
            for most in (0, -1, -2, -10 ** 39):
                kept = list(row)
                with self.assertRaises(InvalidNumber) as caught:
                    least_hand(row, most)
                self.assertEqual(caught.exception.value, most)
                self.assertEqual(row, kept)
                with self.assertRaises(InvalidNumber):
                    least_hand(row=row, most=most)

    def test_good_arguments_behind_a_refusal_are_answered(self):
        for function in WITH_HAND:
            wanted = function(ROW, 1)
            with self.assertRaises(InvalidHand):
                function(ROW, 0)
            self.assertEqual(function(ROW, 1), wanted)
        with self.assertRaises(InvalidNumber):
            least_hand(ROW, 0)
        self.assertEqual(least_hand(ROW, 1), 4)


if __name__ == "__main__":
    unittest.main()
