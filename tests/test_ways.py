"""handpiles.ways against the definitions: promises [2] to [6] and [9]."""

import copy
import unittest

from handpiles.errors import InvalidHand, InvalidWay
from handpiles.hands import fronts, plain_way
from handpiles.ways import count_ways, first_behind, first_fault, fronts_of, going_on, is_beginning
from tests import reference
from tests.reference import GREAT, beginnings, hands_for, lists_inside, long_rows, small_rows

WITH_WAY = [first_fault, is_beginning, fronts_of, first_behind, going_on]
REFUSING = [fronts_of, first_behind, going_on]
ROW = [5, 2, 8, 1, 9, 3]
TOLD = [(0, 0), (2, 0), (1, 1), (4, 1), (3, 2), (5, 2)]


def few_rows():
    return small_rows(3, 3) + [[2, 1, 3, 0], [1, 1, 0, 1], [0, 2, 2, 1]]


def greatest_first(row, hand):
    """A way that lays the greatest card of the hand, and begins a pile only if it must."""
    way = []
    while len(way) < len(row):
        way.append(max(reference.next_entries(row, hand, way), key=lambda entry: (row[entry[0]], -entry[1])))
    return way


def each_alone(row, hand):
    """A way that lays the card drawn last, each on a pile of its own."""
    way = []
    while len(way) < len(row):
        way.append((reference.hand_behind(row, hand, way)[-1], len(way)))
    return way


def by_rows_order(row, hand):
    """A way that lays the cards as they come, on a new pile just if it must."""
    way = []
    for index in range(len(row)):
        allowed = [entry for entry in reference.next_entries(row, hand, way) if entry[0] == index]
        way.append(min(allowed, key=lambda entry: entry[1]))
    return way


def long_cases():
    """Rows, sizes and whole ways of them, plain and not."""
    found = []
    for row in long_rows():
        for hand in hands_for(row):
            for make in (reference.plain, greatest_first, each_alone, by_rows_order):
                found.append((row, hand, make(row, hand)))
    return found


def behind(way, plain):
    """The least pile up to which a way has fewer cards than the plain one."""
    for pile in range(len(way) + 1):
        count = len([entry for entry in way if entry[1] <= pile])
        if count < len([entry for entry in plain if entry[1] <= pile]):
            return pile
    return None


class Told(unittest.TestCase):

    def check_refused(self, row, hand, told, index):
        self.assertEqual(first_fault(row, hand, told), index)
        self.assertIs(is_beginning(row, hand, told), False)
        for function in REFUSING:
            with self.assertRaises(InvalidWay) as caught:
                function(row, hand, told)
            self.assertEqual(caught.exception.value, index)

    def check_beginning(self, row, hand, told):
        whole = len(told) == len(row)
        self.assertEqual(first_fault(row, hand, told), None if whole else len(told))
        self.assertIs(is_beginning(row, hand, told), True)
        self.assertEqual(fronts_of(row, hand, told), reference.fronts_in(told))
        self.assertEqual(going_on(row, hand, told), reference.plainly_on(row, hand, told))
        if whole:
            self.assertEqual(first_behind(row, hand, told), behind(told, reference.plain(row, hand)))
            return
        with self.assertRaises(InvalidWay) as caught:
            first_behind(row, hand, told)
        self.assertEqual(caught.exception.value, len(told))


class Every(Told):

    def test_each_beginning_of_few_cards(self):
        for row in few_rows():
            for hand in list(range(1, len(row) + 2)) + [GREAT]:
                for told in beginnings(row, hand):
                    self.check_beginning(row, hand, told)

    def test_each_entry_behind_each_beginning(self):
        for row in few_rows():
            for hand in range(1, len(row) + 1):
                for told in beginnings(row, hand):
                    allowed = reference.next_entries(row, hand, told)
                    for index in range(-2, len(row) + 2):
                        for pile in range(-1, len(row) + 1):
                            if (index, pile) not in allowed:
                                faulty = told + [(index, pile)]
                                self.assertEqual(first_fault(row, hand, faulty), len(told))
                                self.assertIs(is_beginning(row, hand, faulty), False)

    def test_long_ways_and_their_beginnings(self):
        for row, hand, way in long_cases():
            for many in {0, 1, len(way) // 2, max(0, len(way) - 1), len(way)}:
                self.check_beginning(row, hand, way[:many])


class Faults(Told):

    def test_at_each_place_of_long_ways(self):
        for row, hand, way in long_cases():
            if hand not in (1, 2, 7, len(row)):
                continue
            for place in range(len(way) + 1):
                held = reference.hand_behind(row, hand, way[:place])
                last = way[place - 1] if place else None
                index = held[0] if held else 0
                present = last[1] if last else 0
                wrong = [(index, -1), (index, present + 2), (index, GREAT), (index, -GREAT),
                         (-1, present), (len(row), present), (len(row), present + 1), (GREAT, present),
                         (-GREAT, present), (-len(row), present + 1)]
                if last:
                    wrong += [(last[0], present), (last[0], present + 1), (way[0][0], present + 1),
                              (index, present - 1)]
                else:
                    wrong += [(index, 1)]
                late = place + hand
                if late < len(row):
                    wrong += [(late, present), (late, present + 1)]
                wrong += [(less, present) for less in held if last and row[less] < row[last[0]]]
                for entry in wrong:
                    # What stands behind a fault does not matter.
                    self.assertEqual(first_fault(row, hand, way[:place] + [entry] + way[place + 1:]), place)
                self.check_refused(row, hand, way[:place] + [wrong[place % len(wrong)]], place)

    def test_index_not_in_the_hand(self):
        self.check_refused(ROW, 2, [(2, 0)], 0)
        self.check_refused(ROW, 2, [(0, 0), (3, 1)], 1)
        self.check_refused(ROW, 2, [(0, 0), (0, 0)], 1)
        self.check_refused(ROW, 2, [(0, 0), (-4, 0)], 1)
        self.check_refused(ROW, GREAT, [(-1, 0)], 0)
        self.check_refused(ROW, GREAT, [(6, 0)], 0)

    def test_wrong_piles(self):
        self.check_refused(ROW, 2, [(0, 1)], 0)
        self.check_refused(ROW, 2, [(0, -1)], 0)
        self.check_refused(ROW, 2, [(0, 0), (2, 2)], 1)
        self.check_refused(ROW, 2, [(0, 0), (2, GREAT)], 1)
        self.check_refused(ROW, 2, [(0, 0), (2, -GREAT)], 1)
        self.check_refused(ROW, 2, [(0, 0), (2, 1), (4, 0)], 2)

    def test_a_lesser_card_on_the_present_pile(self):
        self.check_refused(ROW, 2, [(0, 0), (1, 0)], 1)
        self.check_refused([2, 2, 1], 3, [(1, 0), (0, 0), (2, 0)], 2)
        self.check_refused([-1, -2], 2, [(0, 0), (1, 0)], 1)

    def test_an_entry_too_many(self):
        for entry in ((0, 0), (0, 1), (6, 2), (6, 3), (-1, 2), (5, 3)):
            self.check_refused(ROW, 2, TOLD + [entry], 6)
        for entry in ((0, 0), (0, 1), (-1, 0)):
            self.check_refused([], 1, [entry], 0)

    def test_the_first_of_several_faults(self):
        self.check_refused(ROW, 2, [(0, 0), (1, 0), (9, 9)], 1)
        self.check_refused(ROW, 2, [(9, 9), (0, 0), (1, 0)], 0)

    def test_no_entries(self):
        self.check_beginning(ROW, 2, [])
        self.check_beginning([], 2, [])
        self.assertEqual(first_fault([], GREAT, []), None)
        self.assertEqual(first_behind([], 1, []), None)
        self.assertEqual(fronts_of([], 1, []), [])
        self.assertEqual(going_on([], 1, []), [])
        self.assertEqual(first_fault([7], 1, []), 0)


class Others(unittest.TestCase):

    def test_a_next_pile_is_always_allowed(self):
        self.assertEqual(first_fault([1, 2, 3], 1, [(0, 0), (1, 1), (2, 2)]), None)
        self.assertEqual(first_behind([1, 2, 3], 1, [(0, 0), (1, 1), (2, 2)]), 0)
        self.assertEqual(first_behind([2, 3, 1, 1], 1, [(0, 0), (1, 0), (2, 1), (3, 2)]), 1)

    def test_equal_cards_in_any_order(self):
        self.assertEqual(first_fault([4, 4, 4], 2, [(1, 0), (2, 0), (0, 0)]), None)
        self.assertEqual(first_behind([4, 4, 4], 2, [(1, 0), (2, 0), (0, 0)]), None)
        self.assertEqual(going_on([4, 4, 4], 2, [(1, 0)]), [(1, 0), (0, 0), (2, 0)])

    def test_plain_ways_are_never_behind(self):
        for row, hand, way in long_cases():
            self.assertEqual(first_behind(row, hand, plain_way(row, hand)), None)
            others = fronts_of(row, hand, way)
            plain = fronts(row, hand)
            self.assertGreaterEqual(len(others), len(plain))
            self.assertTrue(all(one >= other for one, other in zip(plain, others)))

    def test_going_on_from_nothing_and_from_the_plain_way(self):
        for row in long_rows():
            for hand in hands_for(row):
                way = plain_way(row, hand)
                for many in range(0, len(row) + 1, 6):
                    self.assertEqual(going_on(row, hand, way[:many]), way)


class Counts(unittest.TestCase):

    def check(self, row, hand):
        wanted = [0] * (len(row) + 1)
        for way in reference.all_ways(row, hand):
            wanted[len({pile for _, pile in way})] += 1
        self.assertEqual(count_ways(row, hand), wanted)

    def test_all_rows_of_few_cards(self):
        for row in small_rows(4, 3):
            for hand in range(1, len(row) + 2):
                self.check(row, hand)

    def test_five_cards(self):
        for row in ([4, 3, 2, 1, 0], [0, 1, 2, 3, 4], [2, 2, 2, 2, 2], [3, -1, 3, 0, -1], [GREAT, 0, -GREAT, 5, 5]):
            for hand in (1, 2, 3, 4, 5, 6, GREAT):
                self.check(row, hand)

    def test_no_card_and_one(self):
        for hand in (1, 2, GREAT):
            self.assertEqual(count_ways([], hand), [1])
            self.assertEqual(count_ways([-3], hand), [0, 1])

    def test_equal_cards_are_told_apart(self):
        self.assertEqual(count_ways([1, 1], 1), [0, 1, 1])
        self.assertEqual(count_ways([1, 1], 2), [0, 2, 2])

    def test_more_cards_than_the_limit(self):
        self.check([3, 1, 2, 0, 2, 1], 3)


class Lists(unittest.TestCase):

    def test_by_name(self):
        for function in WITH_WAY:
            self.assertEqual(function(row=ROW, hand=2, told=TOLD), function(ROW, 2, TOLD))
            self.assertEqual(function(told=TOLD, hand=2, row=ROW), function(ROW, 2, TOLD))
        self.assertEqual(count_ways(row=[2, 1], hand=2), [0, 1, 2])
        self.assertEqual(count_ways(hand=1, row=[2, 1]), [0, 0, 1])

    def test_arguments_are_as_they_were(self):
        for told in ([], TOLD[:3], TOLD, [(0, 0), (1, 0)], [(9, 9)], TOLD + [(0, 0)]):
            for hand in (2, 0):
                row = list(ROW)
                entries = list(told)
                for function in WITH_WAY:
                    try:
                        function(row, hand, entries)
                    except (InvalidHand, InvalidWay):
                        pass
                    self.assertEqual((row, entries), (ROW, told))
        row = [3, 1, 2]
        count_ways(row, 2)
        self.assertEqual(row, [3, 1, 2])

    def test_every_list_is_new(self):
        for told in ([], TOLD[:3], TOLD):
            for function in (fronts_of, going_on):
                found = [function(ROW, 2, told), function(ROW, 2, told), ROW, told]
                lists = [one for part in found for one in lists_inside(part)]
                self.assertEqual(len({id(one) for one in lists}), len(lists))
        self.assertIsNot(count_ways([2, 1], 1), count_ways([2, 1], 1))

    def test_changed_answers_change_nothing(self):
        for function in (fronts_of, going_on):
            told = TOLD[:3]
            wanted = copy.deepcopy(function(ROW, 2, told))
            function(ROW, 2, told).clear()
            self.assertEqual(function(ROW, 2, told), wanted)
            self.assertEqual(told, TOLD[:3])
        found = count_ways([3, 1, 2], 2)
        wanted = list(found)
        found.clear()
        self.assertEqual(count_ways([3, 1, 2], 2), wanted)

    def test_arguments_may_change_between_two_questions(self):
        row = list(ROW)
        told = TOLD[:3]
        whole = going_on(row, 2, told)
        kept = list(whole)
        told.pop()
        row[0] = 99
        self.assertEqual(whole, kept)
        self.assertEqual(first_fault(row, 2, told), 1)
        self.assertEqual(going_on(row, 2, told[:1]), reference.plainly_on(row, 2, told[:1]))
        cards = [2, 1]
        counts = count_ways(cards, 1)
        cards.append(3)
        self.assertEqual(counts, [0, 0, 1])
        self.assertEqual(count_ways(cards, 1), [0, 0, 1, 1])


class Refused(unittest.TestCase):

    def test_hands_that_hold_nothing_ahead_of_all_else(self):
        for function in WITH_WAY:
            for row in ([], [3], ROW):
                for told in ([], TOLD, TOLD[:2], [(9, 9)], [(0, 0), (0, 0)]):
                    for hand in (0, -1, -GREAT):
                        with self.assertRaises(InvalidHand) as caught:
                            function(row, hand, told)
                        self.assertEqual(caught.exception.value, hand)

    def test_hands_that_hold_nothing_of_count_ways(self):
        for row in ([], [3], [2, 1]):
            for hand in (0, -1, -GREAT):
                with self.assertRaises(InvalidHand) as caught:
                    count_ways(row, hand)
                self.assertEqual(caught.exception.value, hand)

    def test_good_arguments_behind_a_refusal_are_answered(self):
        wanted = [function(ROW, 2, TOLD) for function in WITH_WAY]
        for function in REFUSING:
            with self.assertRaises(InvalidWay):
                function(ROW, 2, TOLD[:2] + [(9, 9)])
        for function in WITH_WAY:
            with self.assertRaises(InvalidHand):
                function(ROW, 0, TOLD)
        self.assertEqual([function(ROW, 2, TOLD) for function in WITH_WAY], wanted)
        with self.assertRaises(InvalidHand):
            count_ways([2, 1], 0)
        self.assertEqual(count_ways([2, 1], 2), [0, 1, 2])


if __name__ == "__main__":
    unittest.main()
