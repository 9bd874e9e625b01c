"""handpiles.sources against all orders of few cards: promises [2], [3], [5] and [9]."""

import unittest
from functools import lru_cache
from itertools import permutations

from handpiles.errors import InvalidHand, InvalidIndex, InvalidPiles
from handpiles.hands import piles_of
from handpiles.sources import (count_rows, first_row, greatest_source_hand, index_of, places, row_at,
                               rows_for, sizes_for, windows)
from tests.reference import GREAT, check_habits, check_refused, mixed, piles

FAR = 10 ** 39 + 1  # 40 digits
TOLD = [[2, 5, 8, 9], [1, 3]]
CARDS = [[], [-GREAT], [3, GREAT], [-7, 0, 5], [1, 2, 4, 9], [-GREAT, -3, 0, 7, GREAT]]
WITH_HAND = [windows, count_rows, first_row, rows_for, places]
# Told piles that cannot be, each with the index of the first pile that is refused.
BAD = [([[]], 0), ([[1, 2], []], 1), ([[], [1], []], 0), ([[2, 1]], 0), ([[3], [2, 1]], 1), ([[1], [2]], 1),
       ([[4, 5], [3], [9]], 2), ([[4, 5], [3], [2], []], 3), ([[1, 2], [3], []], 1), ([[1, 2], [], [9]], 1),
       ([[5, 1], []], 0), ([[-GREAT], [GREAT]], 1), ([[3, 9], [8, 2, 10]], 1), ([[1, 2, 4, 3]], 0),
       ([list(range(60)), []], 1), ([list(range(30)), list(range(30, 60))], 1), ([list(range(60, 0, -1))], 0),
       ([[card] for card in range(60, 1, -1)] + [[99]], 59)]


def runs(row):
    """The ascending blocks of a row of different cards, which may be told as piles."""
    told = []
    for index, card in enumerate(row):
        if index == 0 or card < row[index - 1]:
            told.append([])
        told[-1].append(card)
    return told


def all_told(cards):
    return [runs(order) for order in permutations(cards)]


@lru_cache(maxsize=None)
def laid_orders(cards, hand):
    """All orders of cards, ascending, with the piles of each."""
    return [(list(order), piles(list(order), hand)) for order in permutations(sorted(cards))]


def sources(told, hand):
    """The rows with told piles, ascending, found among all orders."""
    cards = tuple(sorted(card for pile in told for card in pile))
    return [row for row, laid in laid_orders(cards, hand) if laid == told]


def windows_by_words(told, hand):
    """The windows, by the words of the document."""
    flat = [(card, pile, place) for pile, cards in enumerate(told) for place, card in enumerate(cards)]
    found = []
    for number, (card, _, _) in enumerate(flat):
        firsts = [0]
        for before, (there, pile, place) in enumerate(flat[:number]):
            instead = card < there
            if place > 0 and card < told[pile][place - 1]:
                instead = False
            if place == 0 and pile > 0 and card >= told[pile - 1][-1]:
                instead = True
            if instead:
                firsts.append(hand + before)
        found.append((max(firsts), min(len(flat) - 1, hand + number - 1)))
    return found


def can_be_matched(found):
    """Tell if each card can have an index of its window for itself, by mending what was given out."""
    given = {}

    def give(card, tried):
        for index in range(found[card][0], found[card][1] + 1):
            if index not in tried:
                tried.add(index)
                if index not in given or give(given[index], tried):
                    given[index] = card
                    return True
        return False

    return all(give(card, set()) for card in range(len(found)))


def different(row):
    """The cards of a row without those that came before."""
    return list(dict.fromkeys(row))


def long_told():
    """Told piles of up to 60 cards."""
    rows = [different(mixed(60, 10 ** 6, start)) for start in (1, 5)] + [list(range(60)), list(range(60, 0, -1))]
    return [piles(row, hand) for row in rows for hand in (1, 2, 3, 7)]


class Windows(unittest.TestCase):

    def test_by_the_words(self):
        for cards in CARDS:
            for told in all_told(cards):
                for hand in list(range(1, len(cards) + 2)) + [GREAT]:
                    found = windows(told, hand)
                    self.assertEqual(found, windows_by_words(told, hand))
                    self.assertTrue(all(isinstance(window, tuple) for window in found))

    def test_long_piles(self):
        for told in long_told():
            for hand in (1, 2, 3, 8, 59, 60, 61, GREAT):
                self.assertEqual(windows(told, hand), windows_by_words(told, hand))

    def test_cards_give_the_piles_exactly_within_their_windows(self):
        for cards in CARDS:
            for told in all_told(cards):
                for hand in range(1, len(cards) + 2):
                    flat = [card for pile in told for card in pile]
                    spans = dict(zip(flat, windows(told, hand)))
                    for row, laid in laid_orders(tuple(cards), hand):
                        within = all(spans[card][0] <= index <= spans[card][1] for index, card in enumerate(row))
                        self.assertIs(within, laid == told)

    def test_edges(self):
        for hand in (1, 2, GREAT):
            self.assertEqual(windows([], hand), [])
            self.assertEqual(windows([[-GREAT]], hand), [(0, 0)])
        self.assertEqual(windows([[1, 2, 3]], 1), [(0, 0), (0, 1), (0, 2)])
        self.assertEqual(windows([[1, 2, 3]], 3), [(0, 2), (0, 2), (0, 2)])
        self.assertEqual(windows([[3], [2], [1]], 1), [(0, 0), (1, 1), (2, 2)])
        # The first is greater than the last where there is no such row.
        self.assertEqual(windows([[1], [0]], 2), [(0, 1), (2, 1)])
        self.assertEqual(windows([[1], [0]], GREAT), [(0, 1), (GREAT, 1)])


class Rows(unittest.TestCase):

    def check(self, told, hand):
        wanted = sources(told, hand)
        self.assertEqual(count_rows(told, hand), len(wanted))
        self.assertEqual(first_row(told, hand), wanted[0] if wanted else None)
        self.assertEqual(rows_for(told, hand), wanted)
        flat = [card for pile in told for card in pile]
        stands = [[index for index in range(len(flat)) if any(row[index] == card for row in wanted)] for card in flat]
        self.assertEqual(places(told, hand), stands)
        for index in sorted({0, 1, len(wanted) // 2, len(wanted) - 1} & set(range(len(wanted)))):
            self.assertEqual(row_at(told, hand, index), wanted[index])
            self.assertEqual(index_of(told, hand, wanted[index]), index)

    def test_against_all_orders(self):
        for cards in CARDS:
            for told in all_told(cards):
                for hand in list(range(1, len(cards) + 2)) + [GREAT]:
                    self.check(told, hand)

    def test_each_index_and_each_order(self):
        for cards in CARDS[:5]:
            for told in all_told(cards):
                for hand in range(1, len(cards) + 2):
                    wanted = sources(told, hand)
                    for index, row in enumerate(wanted):
                        self.assertEqual(row_at(told, hand, index), row)
                    for order in permutations(cards):
                        found = wanted.index(list(order)) if list(order) in wanted else None
                        self.assertEqual(index_of(told, hand, list(order)), found)

    def test_rows_of_other_cards(self):
        for told in ([], [[4]], [[1, 2], [0]], TOLD):
            for hand in (1, 2, GREAT):
                for row in ([7], [1, 2], [1, 1, 0], [2, 1, 0, 0], [0, 2], [5, 2, 8, 1, 9], [5, 2, 8, 1, 9, 3, 3],
                            [5, 2, 8, 1, 9, 4], list(range(60))):
                    self.assertIs(index_of(told, hand, row), None)
        self.assertEqual(index_of([], 1, []), 0)
        self.assertIs(index_of([[4]], 1, []), None)

    def test_six_and_seven_cards(self):
        for row, hands in (([5, 2, 8, 1, 9, 3], (1, 2, 3)), ([6, 0, 5, 1, 4, 2, 3], (2, 3)), ([0, 1, 2, 3, 4, 5, 6], (7,))):
            for hand in hands:
                told = piles(row, hand)
                for size in {1, 2, hand, hand + 1}:
                    self.check(told, size)

    def test_ten_cards(self):
        one = [list(range(10))]
        self.assertEqual(count_rows(one, 10), 3628800)
        self.assertEqual(count_rows(one, GREAT), 3628800)
        self.assertEqual(count_rows(one, 2), 2 ** 9)
        self.assertEqual(first_row(one, 3), one[0])
        self.assertEqual(row_at(one, 10, 3628799), list(range(9, -1, -1)))
        self.assertEqual(index_of(one, 10, list(range(9, -1, -1))), 3628799)
        self.assertEqual(places(one, 10), [list(range(10))] * 10)
        for row in (mixed(10, 10 ** 6, 3), mixed(10, 10 ** 6, 8)):
            for hand in (1, 2, 3, 4):
                told = piles(row, hand)
                many = count_rows(told, hand)
                index = index_of(told, hand, row)
                self.assertTrue(0 <= index < many)
                self.assertEqual(row_at(told, hand, index), row)
                for at in {0, index, many // 3, many - 1}:
                    found = row_at(told, hand, at)
                    self.assertEqual(piles(found, hand), told)
                    self.assertEqual(index_of(told, hand, found), at)
                    flat = [card for pile in told for card in pile]
                    for card, stands in zip(flat, places(told, hand)):
                        self.assertIn(found.index(card), stands)
                self.assertEqual(first_row(told, hand), row_at(told, hand, 0))
                self.assertLess(row_at(told, hand, 0), row_at(told, hand, 1) if many > 1 else [10 ** 7])

    def test_edges(self):
        for hand in (1, 2, GREAT):
            self.assertEqual(count_rows([], hand), 1)
            self.assertEqual(first_row([], hand), [])
            self.assertEqual(rows_for([], hand), [[]])
            self.assertEqual(row_at([], hand, 0), [])
            self.assertEqual(places([], hand), [])
            self.assertEqual(rows_for([[-GREAT]], hand), [[-GREAT]])
            self.assertEqual(places([[-GREAT]], hand), [[0]])
        # Each card on a pile by itself comes of a hand of one card alone.
        told = [[3], [2], [1]]
        self.assertEqual(rows_for(told, 1), [[3, 2, 1]])
        for hand in (2, 3, GREAT):
            self.assertEqual(count_rows(told, hand), 0)
            self.assertIs(first_row(told, hand), None)
            self.assertEqual(rows_for(told, hand), [])
            self.assertEqual(places(told, hand), [[], [], []])
            self.assertIs(index_of(told, hand, [3, 2, 1]), None)
        # All orders of the cards of one pile, if the hand has them all.
        self.assertEqual(rows_for([[1, 2, 3]], 3), [list(order) for order in permutations([1, 2, 3])])


class Hands(unittest.TestCase):

    def test_greatest_source_hand_of_few_cards(self):
        for cards in CARDS:
            for told in all_told(cards):
                found = [hand for hand in range(1, len(cards) + 1) if sources(told, hand)]
                self.assertEqual(greatest_source_hand(told), max(found, default=0))
                # With each lesser hand there is such a row, too.
                self.assertEqual(found, list(range(1, len(found) + 1)))

    def test_greatest_source_hand_of_long_piles(self):
        found = set()
        for told in long_told():
            many = len([card for pile in told for card in pile])
            good = [hand for hand in range(1, many + 1) if can_be_matched(windows_by_words(told, hand))]
            self.assertEqual(greatest_source_hand(told), max(good))
            found.add(max(good))
        self.assertTrue(found > {1, 60})

    def test_greatest_source_hand_edges(self):
        self.assertEqual(greatest_source_hand([]), 0)
        self.assertEqual(greatest_source_hand([[7]]), 1)
        self.assertEqual(greatest_source_hand([list(range(60))]), 60)
        self.assertEqual(greatest_source_hand([[card] for card in range(60, 0, -1)]), 1)
        self.assertEqual(greatest_source_hand([[2, 3], [1]]), 2)

    def check_sizes(self, row, told):
        good = [hand for hand in range(1, len(row) + 1) if piles(row, hand) == told]
        wanted = (min(good), max(good)) if good else None
        self.assertEqual(sizes_for(row, told), wanted)
        if good:
            self.assertIsInstance(sizes_for(row, told), tuple)
            self.assertEqual(good, list(range(min(good), max(good) + 1)))

    def test_sizes_for_few_cards(self):
        for cards in CARDS[:5]:
            for told in all_told(cards):
                for order in permutations(cards):
                    self.check_sizes(list(order), told)

    def test_sizes_for_long_rows(self):
        for row in [different(mixed(60, 10 ** 6, start)) for start in (1, 5)] + [list(range(60, 0, -1))]:
            for hand in (1, 2, 7, 30, len(row)):
                self.check_sizes(row, piles(row, hand))
        self.check_sizes(list(range(60)), [list(range(60))])

    def test_sizes_for_other_cards_and_none(self):
        self.assertIs(sizes_for([], []), None)
        self.assertIs(sizes_for([], [[1]]), None)
        self.assertIs(sizes_for([1], []), None)
        self.assertIs(sizes_for([1, 1], [[1]]), None)
        self.assertIs(sizes_for([1, 2], [[1, 3]]), None)
        self.assertIs(sizes_for([2, 1], [[2]]), None)
        self.assertEqual(sizes_for([7], [[7]]), (1, 1))
        self.assertEqual(sizes_for([2, 1], [[2], [1]]), (1, 1))
        self.assertEqual(sizes_for([2, 1], [[1, 2]]), (2, 2))
        self.assertEqual(sizes_for([1, 2], [[1, 2]]), (1, 2))


class Habits(unittest.TestCase):

    def test_by_position_and_by_name(self):
        for told in ([], [[3]], [[1, 2], [0]], [[3], [2], [1]], TOLD):
            for hand in (1, 2, GREAT):
                for function in WITH_HAND:
                    check_habits(self, function, told=told, hand=hand)
                for row in ([], [2, 1, 0], [5, 2, 8, 1, 9, 3]):
                    check_habits(self, index_of, told=told, hand=hand, row=row)
            check_habits(self, row_at, told=told, hand=1, index=0)
            check_habits(self, greatest_source_hand, told=told)
            check_habits(self, sizes_for, row=[5, 2, 8, 1, 9, 3], told=told)
        self.assertEqual(row_at(index=1, hand=2, told=[[1, 2], [0]]), [2, 1, 0])
        self.assertEqual(index_of(row=[2, 1, 0], hand=2, told=[[1, 2], [0]]), 1)
        self.assertEqual(sizes_for(told=TOLD, row=[5, 2, 8, 1, 9, 3]), (2, 3))


class Refused(unittest.TestCase):

    def test_piles_ahead_of_all_else(self):
        for told, index in BAD:
            for hand in (1, 2, GREAT, 0, -1):
                for function in WITH_HAND:
                    check_refused(self, InvalidPiles, index, function, told, hand)
                for at in (-1, 0, FAR):
                    check_refused(self, InvalidPiles, index, row_at, told, hand, at)
                for row in ([], [1, 2]):
                    check_refused(self, InvalidPiles, index, index_of, told, hand, row)
            check_refused(self, InvalidPiles, index, greatest_source_hand, told)
            for row in ([], [1], [card for pile in told for card in pile]):
                check_refused(self, InvalidPiles, index, sizes_for, row, told)

    def test_hands_ahead_of_indexes(self):
        for hand in (0, -1, -GREAT):
            for told in ([], [[4]], TOLD, [list(range(60))]):
                for function in WITH_HAND:
                    check_refused(self, InvalidHand, hand, function, told, hand)
                for at in (-1, 0, FAR):
                    check_refused(self, InvalidHand, hand, row_at, told, hand, at)
                for row in ([], [4]):
                    check_refused(self, InvalidHand, hand, index_of, told, hand, row)

    def test_no_such_row(self):
        for told in ([], [[4]], [[1, 2], [0]], [[3], [2], [1]], TOLD):
            for hand in (1, 2, 4, GREAT):
                many = count_rows(told, hand)
                for at in (-1, -many - 1, -FAR, many, many + 1, FAR):
                    check_refused(self, InvalidIndex, at, row_at, told, hand, at)

    def test_piles_of_rows_are_never_refused(self):
        for row in (mixed(60, 10 ** 6, 1), mixed(37, 10 ** 6, 5)):
            for hand in (1, 2, 9, GREAT):
                told = piles_of(different(row), hand)
                self.assertEqual(len(windows(told, hand)), len(different(row)))

    def test_good_questions_behind_are_answered(self):
        check_refused(self, InvalidPiles, 1, rows_for, [[1, 2], [3]], 2)
        self.assertEqual(rows_for([[1, 2], [0]], 2), [[1, 2, 0], [2, 1, 0]])
        check_refused(self, InvalidIndex, 2, row_at, [[1, 2], [0]], 2, 2)
        self.assertEqual(row_at([[1, 2], [0]], 2, 1), [2, 1, 0])


if __name__ == "__main__":
    unittest.main()
