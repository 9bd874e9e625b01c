"""handpiles.papers against the words of its heading: promises [2], [3], [5] and [9]."""

import unittest
from itertools import combinations

from handpiles.errors import InvalidHand
from handpiles.hands import number_of_piles, plain_way
from handpiles.papers import first_gap, paper, shown
from tests.reference import (GREAT, all_ways, check_habits, check_refused, hands_for, lists_inside, long_rows,
                             number, plain, small_rows)

ROW = [5, 2, 8, 1, 9, 3]
FAR = 10 ** 39 + 1  # 40 digits


def holds(row, hand, told, index):
    """Tell if an entry holds, by the words of the document."""
    pile, backing = told[index]
    if pile == 0:
        return backing == []
    if pile < 0 or len(set(backing)) != hand or backing != sorted(set(backing)):
        return False
    if not set(backing) <= set(range(index)):
        return False
    return all(told[other][0] >= pile or (told[other][0] == pile - 1 and row[other] > row[index])
               for other in backing)


def gap(row, hand, told):
    """The first gap, by the words of the document."""
    for index in range(len(row)):
        if index < len(told) and not holds(row, hand, told, index):
            return index
    return None if len(told) == len(row) else len(told)


def entries_for(index, hand):
    """Entries for the card with an index that could hold."""
    found = [(0, [])]
    for backing in combinations(range(index), hand):
        found.extend((pile, list(backing)) for pile in range(1, index + 1))
    return found


def strange_entries(index, hand):
    """Entries of all kinds for the card with an index."""
    plainly = list(range(hand))
    backings = [[], plainly, plainly[1:], plainly + [hand], plainly[::-1], [0] * hand, [-1] + plainly[1:],
                plainly[:-1] + [index], plainly[:-1] + [index + 1], plainly[:-1] + [FAR], [-FAR] + plainly[1:],
                [max(0, index - hand) + at for at in range(hand)], plainly[:-1] + [-1]]
    return [(pile, list(backing)) for backing in backings for pile in (-FAR, -1, 0, 1, 2, 3, FAR)]


def all_that_hold(row, hand):
    """All papers that hold, built entry by entry."""
    found = [[]]
    for index in range(len(row)):
        longer = [told + [entry] for told in found for entry in entries_for(index, hand)]
        found = [told for told in longer if holds(row, hand, told, index)]
    return found


class Paper(unittest.TestCase):

    def test_holds_and_tells_the_plain_piles(self):
        for row in long_rows() + small_rows(5, 3):
            for hand in hands_for(row):
                told = paper(row, hand)
                self.assertEqual(gap(row, hand, told), None)
                self.assertIs(first_gap(row, hand, told), None)
                piles = dict(plain(row, hand))
                self.assertEqual([entry[0] for entry in told], [piles[index] for index in range(len(row))])
                self.assertEqual(shown(row, hand, told), number(row, hand))
                self.assertTrue(all(isinstance(entry, tuple) and isinstance(entry[1], list) for entry in told))

    def test_edges(self):
        for hand in (1, 2, GREAT):
            self.assertEqual(paper([], hand), [])
            self.assertEqual(paper([7], hand), [(0, [])])
            self.assertEqual(paper([4, 4, 4], hand), [(0, []), (0, []), (0, [])])
        self.assertEqual(paper([3, 2, 1], 1), [(0, []), (1, [0]), (2, [1])])
        self.assertEqual(paper([3, 2, 1], 2), [(0, []), (0, []), (1, [0, 1])])
        self.assertEqual(paper([3, 2, 1], GREAT), [(0, []), (0, []), (0, [])])


class Gaps(unittest.TestCase):

    def check(self, row, hand, told):
        wanted = gap(row, hand, told)
        found = first_gap(row, hand, told)
        self.assertEqual(found, wanted)
        self.assertNotIsInstance(found, bool)
        piles = [-1] + [pile for pile, _ in told]
        self.assertEqual(shown(row, hand, told), max(piles) + 1 if wanted is None else None)

    def test_entries_changed_one_by_one(self):
        for row in small_rows(4, 3) + [ROW, [3, 3, 2, 1, 1, 0, 2]]:
            for hand in (1, 2, 3):
                told = paper(row, hand)
                for index in range(len(row)):
                    for entry in strange_entries(index, hand):
                        self.check(row, hand, told[:index] + [entry] + told[index + 1:])

    def test_long_papers_with_one_other_entry(self):
        for row in long_rows():
            for hand in hands_for(row)[:5]:
                told = paper(row, hand)
                for index in range(0, len(row), 7):
                    pile, backing = told[index]
                    others = [(pile + 1, backing), (pile - 1, backing), (0, []), (pile, backing[1:]), (pile, []),
                              (pile, backing + [index]), (pile, backing + [index - 1]), (pile, backing[::-1]),
                              (pile, [before - 1 for before in backing]), (pile + 1, list(range(min(index, 60))))]
                    for entry in others:
                        self.check(row, hand, told[:index] + [entry] + told[index + 1:])

    def test_all_papers_that_could_hold(self):
        for row in small_rows(3, 3) + [[2, 1, 3, 0], [1, 0, 1, 0]]:
            for hand in (1, 2, 3):
                found = [[]]
                for index in range(len(row)):
                    found = [told + [entry] for told in found for entry in entries_for(index, hand)]
                for told in found:
                    self.check(row, hand, told)

    def test_too_few_and_too_many_entries(self):
        for row in [[], [7], [4, 4], ROW]:
            for hand in (1, 2, GREAT):
                told = paper(row, hand)
                for many in range(len(row)):
                    self.assertEqual(first_gap(row, hand, told[:many]), many)
                    self.assertIs(shown(row, hand, told[:many]), None)
                # Entries of no card are not looked into.
                for more in ([(0, [])], [(-1, [])], [(0, [0])], [(0, [])] * 5, [(1, [0]), (-FAR, [FAR])]):
                    self.assertEqual(first_gap(row, hand, told + more), len(row) + len(more))
                    self.assertIs(shown(row, hand, told + more), None)
        # A fault counts ahead of the number of the entries.
        self.assertEqual(first_gap(ROW, 1, [(0, []), (-1, [])]), 1)
        self.assertEqual(first_gap([3], 1, [(1, []), (0, [])]), 0)

    def test_no_entries(self):
        self.assertEqual(first_gap(ROW, 2, []), 0)
        self.assertIs(shown(ROW, 2, []), None)
        self.assertIs(first_gap([], 2, []), None)
        self.assertEqual(shown([], 2, []), 0)
        self.assertIs(shown([], 2, [(0, [])]), None)

    def test_first_entries(self):
        self.assertIs(first_gap([7], 1, [(0, [])]), None)
        for entry in [(1, []), (0, [0]), (1, [0]), (-1, []), (FAR, [0]), (-FAR, [0]), (1, [-1])]:
            self.assertEqual(first_gap([7], 1, [entry]), 0)

    def test_backings_that_are_none(self):
        row = [4, 3, 2, 1]
        good = [(0, []), (0, []), (1, [0, 1]), (1, [0, 1])]
        self.assertEqual(shown(row, 2, good), 2)
        self.assertEqual(shown(row, 2, good[:3] + [(1, [1, 2])]), 2)
        for backing in ([1, 0], [0, 0], [1, 1], [-1, 0], [-2, -1], [0, 3], [0, 4], [3, 4], [0], [0, 1, 2], []):
            self.assertEqual(first_gap(row, 2, good[:3] + [(1, backing)]), 3)
        # A card with a lesser index that Python would count from the end is none before it.
        self.assertEqual(first_gap(row, 1, [(0, []), (1, [-4]), (1, [0]), (1, [0])]), 1)

    def test_backing_by_a_pile_or_by_a_greater_card(self):
        # The pile one less backs just with a greater card, an equal one is none.
        self.assertEqual(first_gap([2, 2], 1, [(0, []), (1, [0])]), 1)
        self.assertIs(first_gap([3, 2], 1, [(0, []), (1, [0])]), None)
        self.assertEqual(first_gap([1, 2], 1, [(0, []), (1, [0])]), 1)
        # The same pile backs with any card, a pile two less with none.
        self.assertIs(first_gap([3, 1, 2], 1, [(0, []), (1, [0]), (1, [1])]), None)
        self.assertEqual(first_gap([3, 2, 1], 1, [(0, []), (0, []), (2, [0])]), 2)
        # A greater pile backs, too.
        self.assertIs(first_gap([3, 2, 1, 9], 1, [(0, []), (1, [0]), (2, [1]), (1, [2])]), None)


class Guarantees(unittest.TestCase):

    def test_no_way_lays_a_card_on_a_lesser_pile_than_told(self):
        for row in small_rows(3, 3) + [[2, 1, 3, 0], [3, 2, 1, 0], [1, 0, 1, 0]]:
            for hand in (1, 2, 3):
                ways = [dict(way) for way in all_ways(row, hand)]
                for told in all_that_hold(row, hand):
                    self.assertIs(first_gap(row, hand, told), None)
                    self.assertTrue(all(way[index] >= told[index][0] for way in ways for index in range(len(row))))
                    self.assertLessEqual(shown(row, hand, told), number_of_piles(row, hand))

    def test_a_greater_pile_than_the_plain_one_never_holds(self):
        for row in long_rows():
            for hand in hands_for(row)[:5]:
                told = paper(row, hand)
                for index, pile in plain_way(row, hand)[::5]:
                    others = [(pile + 1, backing) for _, backing in told] + [(pile + 1, list(range(hand % 61)))]
                    for entry in others:
                        self.assertEqual(first_gap(row, hand, told[:index] + [entry] + told[index + 1:]), index)


class Habits(unittest.TestCase):

    def test_by_position_by_name_and_new(self):
        for row in long_rows():
            for hand in (1, 2, GREAT):
                told = check_habits(self, paper, row=row, hand=hand)
                check_habits(self, first_gap, row=row, hand=hand, told=told)
                check_habits(self, shown, row=row, hand=hand, told=told)
        for told in ([], [(1, [0])], [(0, []), (1, [0]), (FAR, [-1])]):
            check_habits(self, first_gap, row=ROW, hand=1, told=told)
            check_habits(self, shown, row=ROW, hand=1, told=told)

    def test_changing_one_backing_changes_no_other(self):
        told = paper(list(range(9, 0, -1)), 2)
        kept = [(pile, list(backing)) for pile, backing in told]
        told[4][1].append(99)
        self.assertEqual(told[:4] + told[5:], kept[:4] + kept[5:])
        self.assertEqual(len({id(one) for one in lists_inside(told)}), 10)


class Refused(unittest.TestCase):

    def test_hands_that_hold_nothing(self):
        for hand in (0, -1, -GREAT):
            for row in ([], [7], ROW):
                check_refused(self, InvalidHand, hand, paper, row, hand)
                for told in ([], [(0, [])], [(-1, [9])], paper(row, 1)):
                    check_refused(self, InvalidHand, hand, first_gap, row, hand, told)
                    check_refused(self, InvalidHand, hand, shown, row, hand, told)

    def test_good_questions_behind_are_answered(self):
        row = [3, 1, 2]
        check_refused(self, InvalidHand, 0, paper, row, 0)
        self.assertEqual([pile for pile, _ in paper(row, 1)], [0, 1, 1])
        check_refused(self, InvalidHand, 0, shown, row, 0, [(0, []), (1, [0]), (1, [1])])
        self.assertEqual(shown(row, 1, [(0, []), (1, [0]), (1, [1])]), 2)
        check_refused(self, InvalidHand, -1, first_gap, row, -1, [(0, []), (1, [0]), (2, [1])])
        self.assertEqual(first_gap(row, 1, [(0, []), (1, [0]), (2, [1])]), 2)


if __name__ == "__main__":
    unittest.main()
