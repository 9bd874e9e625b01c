"""handpiles.changes against the definitions: promises [2], [3] and [5]."""

import unittest
from itertools import product

from handpiles.changes import drawn_by, is_never_less, latest_change, piles_by
from handpiles.errors import InvalidHand, InvalidNumber
from handpiles.hands import number_of_piles, piles_of
from tests.reference import GREAT, check_habits, check_refused, long_rows, number, piles_met, small_rows

ROW = [5, 2, 8, 1, 9, 3]
OF_SIZES = [piles_by, drawn_by]
FAR = 10 ** 39 + 1  # 40 digits
SIZES = [[1], [2], [3], [GREAT], [1, 3], [3, 1], [2, 2, 2, 2], [1, 2, 3, 4], [4, 3, 2, 1], [5, 1, 5, 1], [1, 1, GREAT],
         [GREAT, 1], [1, GREAT, 1, 2], [7] * 60, list(range(1, 61)), list(range(60, 0, -1)), [1] * 59 + [GREAT]]
REFUSED = [([], InvalidNumber, 0), ([0], InvalidHand, 0), ([-1], InvalidHand, -1), ([2, 0], InvalidHand, 0),
           ([-GREAT, 0], InvalidHand, -GREAT), ([3, -2, 0, 4], InvalidHand, -2), ([1] * 59 + [0], InvalidHand, 0)]


def sizes_of_few(most, greatest):
    """All lists of sizes with at most so many sizes."""
    return [list(told) for many in range(1, most + 1) for told in product(range(1, greatest + 1), repeat=many)]


def cases():
    found = [(row, sizes) for row in long_rows() for sizes in SIZES]
    return found + [(row, sizes) for row in small_rows(4, 3) + [ROW] for sizes in sizes_of_few(3, 3)]


def drawn(row, sizes):
    return piles_met(row, sizes, [])[1]


class Changes(unittest.TestCase):

    def test_piles_and_what_is_drawn(self):
        for row, sizes in cases():
            piles, counts = piles_met(row, sizes, [])
            self.assertEqual(piles_by(row, sizes), piles)
            self.assertEqual(drawn_by(row, sizes), counts)

    def test_what_is_drawn_by_the_numbers_alone(self):
        for row, sizes in cases():
            wanted = []
            for laid in range(len(row)):
                size = sizes[laid] if laid < len(sizes) else sizes[-1]
                wanted.append(max(wanted[-1:] + [min(len(row), laid + size)]))
            self.assertEqual(drawn_by(row, sizes), wanted)

    def test_a_size_that_does_not_change(self):
        for row in long_rows():
            for hand in (1, 2, 3, max(1, len(row)), len(row) + 1, GREAT):
                for many in (1, 2, 60):
                    self.assertEqual(piles_by(row, [hand] * many), piles_of(row, hand))

    def test_edges(self):
        for sizes in SIZES:
            self.assertEqual(piles_by([], sizes), [])
            self.assertEqual(drawn_by([], sizes), [])
            self.assertEqual(piles_by([-GREAT], sizes), [[-GREAT]])
            self.assertEqual(drawn_by([-GREAT], sizes), [1])
            self.assertEqual(piles_by([4, 4, 4], sizes), [[4, 4, 4]])
        # A hand that has more than the size draws none until it has less.
        self.assertEqual(drawn_by([1] * 6, [4, 1]), [4, 4, 4, 4, 5, 6])
        self.assertEqual(drawn_by([1] * 6, [4, 1, 1, 2, 5]), [4, 4, 4, 5, 6, 6])
        self.assertEqual(drawn_by([1] * 6, [1, 1, 3, 1]), [1, 2, 5, 5, 5, 6])
        # Sizes behind the last card do not matter.
        self.assertEqual(drawn_by([3, 1], [1, 1, 9, 9]), [1, 2])
        self.assertEqual(piles_by([3, 1], [1, 1, 9]), [[3], [1]])


class Latest(unittest.TestCase):

    def check(self, row, small, great, most):
        numbers = [len(piles_met(row, [small] * many + [great], [])[0]) for many in range(len(row) + 1)]
        good = [many for many in range(len(row) + 1) if numbers[many] <= most]
        found = latest_change(row, small, great, most)
        self.assertEqual(found, max(good, default=None))
        self.assertNotIsInstance(found, bool)

    def test_few_cards(self):
        for row in small_rows(4, 3) + [ROW, [3, 1, 2, 0, 2, 1]]:
            for small in range(1, 4):
                for great in range(small, 5):
                    for most in range(1, len(row) + 2):
                        self.check(row, small, great, most)

    def test_long_rows(self):
        for row in long_rows():
            for small, great in ((1, 2), (2, 7), (3, 3), (1, GREAT), (GREAT, GREAT)):
                fewest, greatest = number(row, great), number(row, small)
                for most in {1, fewest - 1, fewest, (fewest + greatest) // 2, greatest - 1, greatest, FAR}:
                    if most >= 1:
                        self.check(row, small, great, most)

    def test_borders(self):
        for row in long_rows():
            if not row:
                continue
            # The small size alone is good enough just from its own number on.
            own = number_of_piles(row, 1)
            self.assertEqual(latest_change(row, 1, GREAT, own), len(row))
            if own > 1:
                self.assertNotEqual(latest_change(row, 1, GREAT, own - 1), len(row))
            least = number_of_piles(row, 3)
            self.assertIsNot(latest_change(row, 2, 3, least), None)
            if least > 1:
                self.assertIs(latest_change(row, 2, 3, least - 1), None)
        self.assertEqual(latest_change([], 1, 1, 1), 0)
        self.assertEqual(latest_change([8], 1, GREAT, 1), 1)
        self.assertEqual(latest_change([4, 4, 4], 1, 2, 1), 3)
        self.assertEqual(latest_change([2, 1], 1, 2, 1), 0)
        self.assertEqual(latest_change([1, 3, 2], 1, 2, 1), 1)
        self.assertIs(latest_change([2, 1], 1, 1, 1), None)


class NeverLess(unittest.TestCase):

    def test_all_lists_of_few_sizes(self):
        answers = set()
        lists = sizes_of_few(3, 3) + [[GREAT], [1, GREAT]]
        for many in (0, 1, 2, 4):
            row = [5, 2, 8, 1][:many]
            for one in lists:
                mine = drawn(row, one)
                for other in lists:
                    wanted = all(more >= less for more, less in zip(mine, drawn(row, other)))
                    self.assertIs(is_never_less(row, one, other), wanted)
                    answers.add(wanted)
        self.assertEqual(answers, {True, False})

    def test_long_rows(self):
        for row in long_rows()[4:]:
            for one in SIZES:
                for other in SIZES:
                    pairs = zip(drawn(row, one), drawn(row, other))
                    self.assertIs(is_never_less(row, one, other), all(more >= less for more, less in pairs))

    def test_edges(self):
        self.assertIs(is_never_less([], [1], [2]), True)
        self.assertIs(is_never_less([7], [1], [GREAT]), True)
        self.assertIs(is_never_less(ROW, [1], [2]), False)
        self.assertIs(is_never_less(ROW, [2], [2, 2]), True)
        self.assertIs(is_never_less(ROW, [6], [GREAT]), True)
        # What a great size has drawn is not less when the size is.
        self.assertIs(is_never_less(ROW, [3, 1], [1, 2, 1]), True)
        self.assertIs(is_never_less(ROW, [3, 1], [1, 2]), False)

    def test_no_card_on_a_greater_pile(self):
        rows = [[3, 1, 0, 2], ROW, [9, 0, 8, 1, 7, 2, 6, 3], [GREAT, -GREAT, GREAT - 1, 0, -GREAT + 1]]
        for row in rows:
            lists = sizes_of_few(3, 3)
            where = [{card: pile for pile, cards in enumerate(piles_by(row, sizes)) for card in cards}
                     for sizes in lists]
            for one, mine in zip(lists, where):
                for other, theirs in zip(lists, where):
                    if is_never_less(row, one, other):
                        self.assertTrue(all(mine[card] <= theirs[card] for card in row))


class Habits(unittest.TestCase):

    def test_by_position_by_name_and_new(self):
        for row in long_rows():
            for sizes in SIZES[::3]:
                for function in OF_SIZES:
                    check_habits(self, function, row=row, sizes=sizes)
                check_habits(self, is_never_less, row=row, one=sizes, other=SIZES[4])
                check_habits(self, is_never_less, row=row, one=SIZES[5], other=sizes)
        for most in (1, 2, 3, FAR):
            check_habits(self, latest_change, row=ROW, small=1, great=4, most=most)
        self.assertEqual(latest_change(most=1, great=4, small=1, row=ROW), 0)
        self.assertIs(is_never_less(other=[2], one=[1, 3], row=ROW), False)
        self.assertIs(is_never_less(other=[1, 3], one=[3], row=ROW), True)


class Refused(unittest.TestCase):

    def test_sizes(self):
        for sizes, error, value in REFUSED:
            for row in ([], [3], ROW):
                for function in OF_SIZES:
                    check_refused(self, error, value, function, row, sizes)
                check_refused(self, error, value, is_never_less, row, sizes, [2])
                check_refused(self, error, value, is_never_less, row, [2], sizes)

    def test_one_ahead_of_other(self):
        for one, error, value in REFUSED:
            for other, _, _ in REFUSED:
                check_refused(self, error, value, is_never_less, ROW, one, other)

    def test_small_ahead_of_great_ahead_of_most(self):
        for row in ([], [3], ROW):
            for most in (1, 0, -5):
                for small in (0, -1, -GREAT):
                    for great in (small - 1, small, 0, 1, GREAT):
                        check_refused(self, InvalidHand, small, latest_change, row, small, great, most)
                for great in (0, -1, -GREAT, 1, 2):
                    check_refused(self, InvalidHand, great, latest_change, row, 3, great, most)
                check_refused(self, InvalidHand, GREAT - 1, latest_change, row, GREAT, GREAT - 1, most)
            for most in (0, -1, -FAR):
                check_refused(self, InvalidNumber, most, latest_change, row, 1, 2, most)
                check_refused(self, InvalidNumber, most, latest_change, row, 2, 2, most)

    def test_good_questions_behind_are_answered(self):
        check_refused(self, InvalidNumber, 0, piles_by, ROW, [])
        self.assertEqual(piles_by(ROW, [1, 3]), [[5, 8, 9], [1, 2, 3]])
        check_refused(self, InvalidHand, 0, drawn_by, ROW, [3, 0])
        self.assertEqual(drawn_by(ROW, [3, 1]), [3, 3, 3, 4, 5, 6])
        check_refused(self, InvalidHand, 1, latest_change, ROW, 2, 1, 2)
        self.assertEqual(latest_change(ROW, 1, 4, 2), 1)
        check_refused(self, InvalidNumber, 0, latest_change, ROW, 1, 4, 0)
        self.assertEqual(latest_change(ROW, 1, 4, 1), 0)
        check_refused(self, InvalidNumber, 0, is_never_less, ROW, [3], [])
        self.assertIs(is_never_less(ROW, [3], [1, 3]), True)


if __name__ == "__main__":
    unittest.main()
