"""handpiles.tables against the words of its heading: promises [2], [3], [5] and [9]."""

import unittest
from functools import lru_cache
from itertools import product

from handpiles.errors import InvalidHand
from handpiles.hands import number_of_piles
from handpiles.tables import first_breach, laid_table, most_shown, values_of
from tests.reference import (GREAT, all_ways, check_habits, check_refused, hands_for, lists_inside, long_rows,
                             number, plain, small_rows)

ROW = [3, 1, 2, 1]
FAR = 10 ** 39 + 1  # 40 digits
FEW = [[], [7], [2, 2], [3, 2, 1], [2, 1, 2], [1, 0, 1, 0], ROW, [0, 0, 1, 0]]


def values(row):
    return sorted({card for card in row})


@lru_cache(maxsize=None)
def cards_by_value(row):
    """The indexes of the cards of each value."""
    return [[index for index, card in enumerate(row) if card == value] for value in values(row)]


def table_of(row, way):
    """For each pile j of a way how many cards of each value are on the piles 0 to j."""
    piles = 1 + max([pile for _, pile in way], default=-1)
    return [[len([index for index, pile in way if pile <= which and row[index] == value]) for value in values(row)]
            for which in range(piles)]


def holds(row, hand, told, which, place):
    """Tell if an entry holds, by the words of the document."""
    count = told[which][place]
    if count < 0:
        return False
    others = sum(told[which][:place])
    if which > 0:
        others += sum(told[which - 1][place + 1:])
    cards = cards_by_value(tuple(row))[place]
    if len(cards) <= count:
        return True
    return cards[count] >= hand + others + count


def breach(row, hand, told):
    """The first breach, by the words of the document."""
    for which, entries in enumerate(told):
        if len(entries) != len(cards_by_value(tuple(row))):
            return which, len(entries)
        for place in range(len(entries)):
            if not holds(row, hand, told, which, place):
                return which, place
    return None


def most(row, told):
    """What a table that holds shows."""
    if not row:
        return 0
    lesser = [sum(entries) < len(row) for entries in told] + [False]
    return 1 + lesser.index(False)


def changed(told, which, place, count):
    """A table with another entry."""
    found = [list(entries) for entries in told]
    found[which][place] = count
    return found


class Laid(unittest.TestCase):

    def test_values(self):
        for row in long_rows() + small_rows(4, 3):
            self.assertEqual(values_of(row), values(row))
        self.assertEqual(values_of([]), [])
        self.assertEqual(values_of([2, GREAT, 2, -GREAT, 0, 2]), [-GREAT, 0, 2, GREAT])

    def test_tells_the_plain_piles_and_holds(self):
        for row in long_rows() + small_rows(5, 3):
            for hand in hands_for(row):
                told = laid_table(row, hand)
                self.assertEqual(told, table_of(row, plain(row, hand)))
                self.assertIs(first_breach(row, hand, told), None)
                self.assertEqual(most_shown(row, hand, told), number(row, hand))

    def test_edges(self):
        for hand in (1, 2, GREAT):
            self.assertEqual(laid_table([], hand), [])
            self.assertEqual(laid_table([7], hand), [[1]])
            self.assertEqual(laid_table([4, 4, 4], hand), [[3]])
        self.assertEqual(laid_table([3, 2, 1], 1), [[0, 0, 1], [0, 1, 1], [1, 1, 1]])
        self.assertEqual(laid_table([3, 2, 1], 2), [[0, 1, 1], [1, 1, 1]])


class Breaches(unittest.TestCase):

    def check(self, row, hand, told):
        wanted = breach(row, hand, told)
        found = first_breach(row, hand, told)
        self.assertEqual(found, wanted)
        if wanted is None:
            self.assertEqual(most_shown(row, hand, told), most(row, told))
        else:
            self.assertIsInstance(found, tuple)
            self.assertIs(most_shown(row, hand, told), None)

    def test_all_tables_of_one_and_of_two_lists(self):
        for row in FEW:
            counts = [range(-1, row.count(value) + 2) for value in values(row)]
            lists = [list(entries) for entries in product(*counts)]
            for hand in (1, 2, 3):
                self.check(row, hand, [])
                for one in lists:
                    self.check(row, hand, [one])
                    for other in lists:
                        self.check(row, hand, [one, other])

    def test_entries_changed_one_by_one(self):
        for row in long_rows():
            for hand in hands_for(row)[:5]:
                told = laid_table(row, hand)
                for which in range(0, len(told), 1 + len(told) // 3):
                    for place in range(0, len(told[which]), 1 + len(told[which]) // 4):
                        count = told[which][place]
                        for other in (count - 1, count + 1, -1, 0, 60, FAR, -FAR):
                            self.check(row, hand, changed(told, which, place, other))

    def test_negative_entries_never_hold(self):
        for row in [[7], ROW, list(range(60))]:
            for hand in (1, GREAT):
                told = laid_table(row, hand)
                for place in range(len(told[0])):
                    for count in (-1, -2, -FAR):
                        self.assertEqual(first_breach(row, hand, changed(told, 0, place, count)), (0, place))

    def test_lists_of_wrong_lengths(self):
        for row in [[], [7], ROW, list(range(30, 0, -1))]:
            for hand in (1, 2, GREAT):
                told = laid_table(row, hand)
                width = len(values(row))
                for which in range(len(told) + 1):
                    for many in {0, 1, width - 1, width + 1, 60} - {width, -1}:
                        # The length counts ahead of the entries, whatever these are.
                        for entry in (-1, 0, 60):
                            wrong = told[:which] + [[entry] * many] + told[which:]
                            self.assertEqual(first_breach(row, hand, wrong), (which, many))
                            self.assertIs(most_shown(row, hand, wrong), None)
        # A list before it that does not hold counts first.
        self.assertEqual(first_breach(ROW, 1, [[0, 0, 0], [0]]), (0, 2))

    def test_fewer_lists_and_more_than_piles(self):
        for row in long_rows():
            for hand in hands_for(row)[:5]:
                told = laid_table(row, hand)
                for many in range(len(told)):
                    self.assertIs(first_breach(row, hand, told[:many]), None)
                    self.assertEqual(most_shown(row, hand, told[:many]), many + 1)
                whole = [row.count(value) for value in values(row)]
                for more in ([whole], [whole, whole], [[FAR] * len(whole)]):
                    self.check(row, hand, told + more)
                    self.assertEqual(most_shown(row, hand, told + more), number(row, hand))
                if row:
                    self.check(row, hand, told + [[0] * len(whole)])

    def test_sums_count_without_a_break(self):
        # Behind a list with the sum of all cards a lesser one adds no pile.
        row = [2, 2, 2, 1, 0]
        for told, wanted in [([[2, 0, 3], [0, 1, 3]], 1), ([[0, 0, 3], [0, 1, 3]], 3), ([[0, 0, 3], [2, 1, 3]], 2)]:
            self.assertIs(first_breach(row, 1, told), None)
            self.assertEqual(most_shown(row, 1, told), wanted)
        self.assertEqual(most_shown([5], 1, [[1], [1]]), 1)
        self.assertEqual(most_shown([5], 1, [[FAR], [1]]), 1)

    def test_the_empty_row_and_the_empty_table(self):
        for told in ([], [[]], [[], []]):
            self.assertIs(first_breach([], 1, told), None)
            self.assertEqual(most_shown([], 1, told), 0)
        self.assertEqual(first_breach([], 1, [[], [0]]), (1, 1))
        self.assertIs(most_shown([], 1, [[], [0]]), None)
        for row in ([7], ROW):
            self.assertIs(first_breach(row, GREAT, []), None)
            self.assertEqual(most_shown(row, GREAT, []), 1)

    def test_entries_beyond_the_cards_hold(self):
        self.assertIs(first_breach(ROW, 1, [[FAR, FAR, FAR]]), None)
        self.assertEqual(most_shown(ROW, 1, [[FAR, FAR, FAR]]), 1)


class Guarantees(unittest.TestCase):

    def test_no_way_has_more_cards_than_a_table_that_holds(self):
        for row in FEW:
            lists = [list(entries) for entries in product(*[range(row.count(value) + 1) for value in values(row)])]
            for hand in (1, 2, 3):
                found = [table_of(row, way) for way in all_ways(row, hand)]
                for told in [[one] for one in lists] + [[one, other] for one in lists for other in lists]:
                    if first_breach(row, hand, told) is not None:
                        continue
                    self.assertLessEqual(most_shown(row, hand, told), number_of_piles(row, hand))
                    for theirs in found:
                        for mine, counts in zip(told, theirs):
                            self.assertTrue(all(one >= other for one, other in zip(mine, counts)))

    def test_no_table_that_holds_has_a_lesser_entry_than_the_laid_one(self):
        for row in FEW:
            lists = [list(entries) for entries in product(*[range(row.count(value) + 1) for value in values(row)])]
            for hand in (1, 2, 3):
                laid = laid_table(row, hand)
                if len(lists) ** len(laid) > 10000:
                    continue
                for told in product(lists, repeat=len(laid)):
                    if breach(row, hand, list(told)) is None:
                        self.assertIs(first_breach(row, hand, list(told)), None)
                        self.assertTrue(all(one >= other for mine, least in zip(told, laid)
                                            for one, other in zip(mine, least)))

    def test_a_laid_table_with_one_entry_less_does_not_hold(self):
        for row in long_rows():
            for hand in hands_for(row)[:5]:
                laid = laid_table(row, hand)
                for which in range(0, len(laid), 5):
                    for place in range(0, len(laid[which]), 7):
                        lesser = changed(laid, which, place, laid[which][place] - 1)
                        self.assertIsNot(first_breach(row, hand, lesser), None)


class Habits(unittest.TestCase):

    def test_by_position_by_name_and_new(self):
        for row in long_rows():
            check_habits(self, values_of, row=row)
            for hand in (1, 2, GREAT):
                told = check_habits(self, laid_table, row=row, hand=hand)
                check_habits(self, first_breach, row=row, hand=hand, told=told)
                check_habits(self, most_shown, row=row, hand=hand, told=told)
        for told in ([], [[0]], [[0, 0, 1], [0, 0, -1]], [[FAR, 0, 0]]):
            check_habits(self, first_breach, row=ROW, hand=1, told=told)
            check_habits(self, most_shown, row=ROW, hand=1, told=told)

    def test_changing_one_list_changes_no_other(self):
        told = laid_table(ROW, 1)
        told[0].append(99)
        self.assertEqual(told[1:], [[1, 1, 1], [2, 1, 1]])
        self.assertEqual(len({id(one) for one in lists_inside(told)}), 4)


class Refused(unittest.TestCase):

    def test_hands_that_hold_nothing(self):
        for hand in (0, -1, -GREAT):
            for row in ([], [7], ROW):
                check_refused(self, InvalidHand, hand, laid_table, row, hand)
                for told in ([], [[]], [[0]], [[0, 0, 0]], [[-1, 9]]):
                    check_refused(self, InvalidHand, hand, first_breach, row, hand, told)
                    check_refused(self, InvalidHand, hand, most_shown, row, hand, told)

    def test_good_questions_behind_are_answered(self):
        check_refused(self, InvalidHand, 0, laid_table, ROW, 0)
        self.assertEqual(laid_table(ROW, 2), [[1, 1, 1], [2, 1, 1]])
        check_refused(self, InvalidHand, 0, first_breach, ROW, 0, [[0, 0, 0]])
        self.assertEqual(first_breach(ROW, 1, [[0, 0, 0]]), (0, 2))
        check_refused(self, InvalidHand, -2, most_shown, ROW, -2, [[0, 0, 1]])
        self.assertEqual(most_shown(ROW, 1, [[0, 0, 1]]), 2)


if __name__ == "__main__":
    unittest.main()
