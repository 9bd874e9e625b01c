"""handpiles.leads against the definitions: promises [2], [3], [4] to [7] and [9]."""

import unittest

from handpiles.errors import InvalidHand, InvalidNumber, InvalidWay
from handpiles.hands import number_of_piles, plain_way
from handpiles.leads import is_ahead, keys_of, late_cards, piles_from
from tests import reference
from tests.reference import (GREAT, all_ways, beginnings, check_habits, check_refused, hands_for, keys_behind,
                             long_rows, small_rows)

OF_ONE = [keys_of, piles_from, late_cards]
ROW = [5, 2, 8, 1, 9, 3]
TOLD = [(0, 0), (2, 0), (1, 1), (4, 1), (3, 2), (5, 2)]
SOME = small_rows(3, 3) + [[2, 1, 3, 0], [1, 1, 0, 1], [-1, 2, 2, -3]]


def ways_of(row, hand):
    """A plain way, one that lays the greatest card, and one with a pile for each card."""
    found = [reference.plain(row, hand), [], []]
    for _ in row:
        entries = reference.next_entries(row, hand, found[1])
        found[1].append(max(entries, key=lambda entry: (row[entry[0]], -entry[1])))
        found[2].append(max(reference.next_entries(row, hand, found[2]), key=lambda entry: (entry[1], entry[0])))
    return found


def some_beginnings(row, hand):
    many = {0, 1, len(row) // 3, max(0, len(row) - 1), len(row)}
    return [way[:laid] for way in ways_of(row, hand) for laid in sorted(many) if laid <= len(row)]


def wanted_ahead(row, hand, one, other):
    pairs = zip(keys_behind(row, hand, one), keys_behind(row, hand, other))
    return all(mine <= theirs for mine, theirs in pairs)


class Beginnings(unittest.TestCase):

    def check(self, row, hand, told):
        keys = keys_of(row, hand, told)
        self.assertEqual(keys, keys_behind(row, hand, told))
        self.assertTrue(all(isinstance(key, tuple) for key in keys))
        on = reference.plainly_on(row, hand, told)
        self.assertEqual(piles_from(row, hand, told), len({pile for _, pile in on}))
        plain = dict(reference.plain(row, hand))
        late = [index for index in range(len(row)) if dict(told).get(index, 0) > plain[index]]
        self.assertEqual(late_cards(row, hand, told), late)

    def test_each_beginning_of_few_cards(self):
        for row in SOME:
            for hand in list(range(1, len(row) + 2)) + [GREAT]:
                for told in beginnings(row, hand):
                    self.check(row, hand, told)

    def test_long_rows(self):
        for row in long_rows():
            for hand in hands_for(row):
                for told in some_beginnings(row, hand):
                    self.check(row, hand, told)

    def test_edges(self):
        for hand in (1, 2, GREAT):
            self.assertEqual([function([], hand, []) for function in OF_ONE], [[], 0, []])
            self.assertEqual([function([-GREAT], hand, []) for function in OF_ONE], [[(0, -GREAT)], 1, []])
            self.assertEqual([function([7], hand, [(0, 0)]) for function in OF_ONE], [[], 1, []])
        self.assertEqual(keys_of([3, 1, 2], GREAT, []), [(0, 1), (0, 2), (0, 3)])
        self.assertEqual(keys_of([3, 1, 2], GREAT, [(2, 0)]), [(0, 3), (1, 1)])
        # An equal card fits, and equal cards have equal keys.
        self.assertEqual(keys_of([4, 4, 4, 3], 3, [(1, 0)]), [(0, 4), (0, 4), (1, 3)])
        self.assertEqual(late_cards([1, 2, 3], 1, [(0, 0), (1, 1), (2, 2)]), [1, 2])
        self.assertEqual(late_cards([3, 2, 1], 3, [(0, 0), (1, 1), (2, 2)]), [1, 2])
        # What is not laid yet is not late.
        self.assertEqual(late_cards([3, 2, 1], 3, [(0, 0)]), [])
        self.assertEqual(late_cards([1, 3, 2], 3, [(1, 0), (2, 1), (0, 2)]), [0, 2])

    def test_no_way_with_a_beginning_has_fewer_piles(self):
        for row in SOME:
            for hand in range(1, len(row) + 1):
                ways = all_ways(row, hand)
                for told in beginnings(row, hand):
                    fewest = min(len({pile for _, pile in way}) for way in ways if way[:len(told)] == told)
                    self.assertEqual(piles_from(row, hand, told), fewest)


class Ahead(unittest.TestCase):

    def test_each_pair_of_few_cards(self):
        for row in SOME:
            for hand in range(1, len(row) + 2):
                found = beginnings(row, hand)
                for one in found:
                    for other in found:
                        if len(one) == len(other):
                            self.assertIs(is_ahead(row, hand, one, other), wanted_ahead(row, hand, one, other))

    def test_long_rows(self):
        answers = set()
        for row in long_rows():
            for hand in hands_for(row):
                found = some_beginnings(row, hand)
                for one in found:
                    for other in found:
                        if len(one) == len(other):
                            wanted = wanted_ahead(row, hand, one, other)
                            answers.add(wanted)
                            self.assertIs(is_ahead(row, hand, one, other), wanted)
        self.assertEqual(answers, {True, False})

    def test_the_plain_way_is_ahead_of_each(self):
        for row in SOME:
            for hand in range(1, len(row) + 2):
                way = plain_way(row, hand)
                for told in beginnings(row, hand):
                    self.assertIs(is_ahead(row, hand, way[:len(told)], told), True)

    def test_who_is_ahead_needs_no_more_piles(self):
        for row in SOME:
            for hand in range(1, len(row) + 1):
                found = [told for told in beginnings(row, hand) if len(told) < len(row)]
                fewest = [piles_from(row, hand, told) for told in found]
                for one, mine in zip(found, fewest):
                    for other, theirs in zip(found, fewest):
                        if len(one) == len(other) and is_ahead(row, hand, one, other):
                            self.assertLessEqual(mine, theirs)

    def test_edges(self):
        for hand in (1, 2, GREAT):
            self.assertIs(is_ahead([], hand, [], []), True)
            self.assertIs(is_ahead(ROW, hand, [], []), True)
        # Behind whole ways there is no key that could be greater.
        self.assertIs(is_ahead(ROW, 2, TOLD, plain_way(ROW, 2)), True)
        # Of two beginnings neither need be ahead.
        self.assertIs(is_ahead([1, 3, 2], 3, [(0, 0)], [(1, 0)]), True)
        self.assertIs(is_ahead([1, 3, 2], 3, [(1, 0)], [(0, 0)]), False)

    def test_the_answer_of_the_plain_way(self):
        for row in long_rows():
            for hand in hands_for(row):
                self.assertEqual(piles_from(row, hand, []), number_of_piles(row, hand))
                self.assertEqual(late_cards(row, hand, plain_way(row, hand)), [])


class Habits(unittest.TestCase):

    def test_of_one(self):
        for function in OF_ONE:
            for row in ([], [3], [4, 4, 4], ROW):
                for told in ([], reference.plain(row, 2)[:1], reference.plain(row, 2)):
                    check_habits(self, function, row=row, hand=2, told=told)
            check_habits(self, function, row=ROW, hand=2, told=TOLD)

    def test_of_two(self):
        check_habits(self, is_ahead, row=ROW, hand=2, one=[(1, 0)], other=[(0, 0)])
        check_habits(self, is_ahead, row=ROW, hand=2, one=TOLD, other=plain_way(ROW, 2))
        self.assertIs(is_ahead(hand=2, other=[(0, 0)], row=ROW, one=[(1, 0)]), True)
        self.assertIs(is_ahead(hand=2, one=[(0, 0)], row=ROW, other=[(1, 0)]), False)
        told = [(1, 0)]
        self.assertIs(is_ahead(ROW, 2, told, told), True)
        self.assertEqual(told, [(1, 0)])


class Refused(unittest.TestCase):

    FAULTS = [([(2, 0)], 0), ([(0, 1)], 0), ([(0, -1)], 0), ([(-1, 0)], 0), ([(GREAT, 0)], 0), ([(0, GREAT)], 0),
              ([(0, 0), (1, 0)], 1), ([(0, 0), (0, 0)], 1), ([(0, 0), (2, 2)], 1), ([(0, 0), (-4, 0)], 1),
              ([(0, 0), (2, -GREAT)], 1), ([(0, 0), (2, 1), (4, 0)], 2), (TOLD + [(0, 0)], 6), (TOLD + [(6, 3)], 6),
              ([(0, 0), (1, 0), (9, 9)], 1)]

    def test_hands_ahead_of_all_else(self):
        for hand in (0, -1, -GREAT):
            for row in ([], ROW):
                for told in ([], TOLD, [(9, 9)]):
                    for function in OF_ONE:
                        check_refused(self, InvalidHand, hand, function, row, hand, told)
                    check_refused(self, InvalidHand, hand, is_ahead, row, hand, told, [])
                    check_refused(self, InvalidHand, hand, is_ahead, row, hand, [], told)

    def test_entries_that_are_not_allowed(self):
        for told, index in self.FAULTS:
            for function in OF_ONE:
                wanted = function(ROW, 2, told[:index])
                check_refused(self, InvalidWay, index, function, ROW, 2, told)
                self.assertEqual(function(ROW, 2, told[:index]), wanted)
            check_refused(self, InvalidWay, index, is_ahead, ROW, 2, told, told)
            # Ahead of unlike numbers, in one as in the other.
            for many in (0, 1, 6):
                check_refused(self, InvalidWay, index, is_ahead, ROW, 2, told, TOLD[:many])
                check_refused(self, InvalidWay, index, is_ahead, ROW, 2, TOLD[:many], told)

    def test_the_fault_of_one_ahead_of_that_of_the_other(self):
        for one, index in self.FAULTS:
            for other, _ in self.FAULTS:
                check_refused(self, InvalidWay, index, is_ahead, ROW, 2, one, other)

    def test_beginnings_of_unlike_numbers(self):
        for one in range(7):
            for other in range(7):
                if one != other:
                    check_refused(self, InvalidNumber, other, is_ahead, ROW, 2, TOLD[:one], TOLD[:other])
        self.assertIs(is_ahead(ROW, 2, TOLD[:3], TOLD[:3]), True)

    def test_entries_of_no_card(self):
        for function in OF_ONE:
            check_refused(self, InvalidWay, 0, function, [], 1, [(0, 0)])
            check_refused(self, InvalidWay, 1, function, [4], 1, [(0, 0), (0, 0)])
        check_refused(self, InvalidWay, 0, is_ahead, [], 1, [], [(0, 0)])
        check_refused(self, InvalidWay, 0, is_ahead, [], 1, [(0, 0)], [])

    def test_good_questions_behind_are_answered(self):
        check_refused(self, InvalidWay, 1, keys_of, ROW, 2, [(0, 0), (1, 0)])
        self.assertEqual(keys_of(ROW, 2, [(0, 0)]), [(0, 8), (1, 2)])
        check_refused(self, InvalidWay, 1, piles_from, ROW, 2, [(0, 0), (1, 0)])
        self.assertEqual(piles_from(ROW, 2, [(0, 0), (2, 1)]), 3)
        check_refused(self, InvalidHand, 0, late_cards, ROW, 0, [(0, 0), (2, 1)])
        self.assertEqual(late_cards(ROW, 2, [(0, 0), (2, 1)]), [2])
        check_refused(self, InvalidNumber, 0, is_ahead, ROW, 2, [(1, 0)], [])
        self.assertIs(is_ahead(ROW, 2, [(1, 0)], [(0, 0)]), True)


if __name__ == "__main__":
    unittest.main()
