"""handpiles.rounds against the definitions: promises [2], [3], [8] and [9]."""

import unittest
from fractions import Fraction

from handpiles.errors import InvalidHand, InvalidIndex, InvalidNumber
from handpiles.hands import number_of_piles
from handpiles.rounds import comes_round, least_steady, long_run, pile_at, piles_after
from tests.reference import (GREAT, check_habits, check_refused, hand_behind, mixed, plain, piles, small_rows)

FAR = 10 ** 30
FARTHEST = 10 ** 39 + 1  # 40 digits
ROW = [3, 1, 2]
HANDS = range(1, 7)
# Some of these come round late, or only after many rounds.
NAMED = [[7], [4, 4, 4], [-GREAT] * 8, ROW, [5, 2, 8, 1, 9, 3], [1, 2], [2, 1], list(range(8)), list(range(8, 0, -1)),
         [1, 8], [8, 2, 1], [4, 4, 7], [0, 6, 2, 0], [0, 8, 1, 4, 7], [1, 8, 3, 3, 5, 3, 4], [1, 4, 1, 3, 1, 0],
         [8, 8, 3, 6], [GREAT, -GREAT, GREAT - 1, 0, -GREAT + 1, GREAT, 5, 5], [-1, -5, 0, -5, 3, -1],
         mixed(8, 100, 1), mixed(8, 5, 2), mixed(7, 3, 3)]
SOME = NAMED + [row for row in small_rows(4, 3) if row]


def state(row, hand, way, laid):
    """The state of a row behind so many cards of its way."""
    last = row[way[laid - 1][0]] if laid else None
    return last, tuple(sorted(row[index] for index in hand_behind(row, hand, way[:laid])))


def coming_round(row, hand):
    """What comes_round returns, by the states of a row that is repeated often enough."""
    most = 4
    while True:
        # The last rounds are left out, as a hand is not full at the end of a row.
        repeated = row * (most + hand)
        way = plain(repeated, hand)
        states = [state(repeated, hand, way, len(row) * number) for number in range(most)]
        for first in range(most):
            if states[first] in states[first + 1:]:
                every = states[first + 1:].index(states[first]) + 1
                laid = way[len(row) * first - 1:len(row) * (first + every)]
                return first, every, laid[-1][1] - laid[0][1]
        most *= 2


def reached(row, hand, rounds):
    """The number of piles after far rounds, from what few rounds tell."""
    first, every, more, few = told_by_few(row, hand)
    return number_of_few(row, hand, few + (rounds - few) % every) + (rounds - few) // every * more


def told_by_few(row, hand):
    """A number of rounds from which the piles grow evenly, and how they do."""
    first, every, more = coming_round(row, hand)
    return first, every, more, first + every + 6


def number_of_few(row, hand, rounds):
    return len(piles(row * rounds, hand))


def told_of(pile):
    return len(pile), pile[0], pile[-1]


class ComesRound(unittest.TestCase):

    def test_by_the_states(self):
        for row in SOME:
            for hand in HANDS:
                found = comes_round(row, hand)
                self.assertIsInstance(found, tuple)
                self.assertEqual(found, coming_round(row, hand))

    def test_edges(self):
        for hand in HANDS:
            self.assertEqual(comes_round([-GREAT], hand), (1, 1, 0))
            self.assertEqual(comes_round([4, 4, 4], hand), (1, 1, 0))
        self.assertEqual(comes_round([1, 8], 6), (1, 11, 1))
        self.assertEqual(comes_round([1, 4, 1, 3, 1, 0], 6), (9, 3, 1))
        self.assertEqual(comes_round([2, 1], 1), (1, 1, 1))

    def test_a_greater_hand_than_the_limit(self):
        for row in NAMED:
            self.assertEqual(comes_round(row, 9), coming_round(row, 9))


class PilesAfter(unittest.TestCase):

    def test_few_rounds(self):
        for row in SOME + [[]]:
            for hand in HANDS:
                for rounds in list(range(12)) + [25]:
                    self.assertEqual(piles_after(row, hand, rounds), number_of_few(row, hand, rounds))

    def test_more_rounds_one_by_one(self):
        for row in NAMED:
            for hand in (1, 2, 5, 6):
                for rounds in range(25, 45):
                    self.assertEqual(piles_after(row, hand, rounds), number_of_few(row, hand, rounds))

    def test_far_rounds(self):
        for row in SOME:
            for hand in HANDS:
                for rounds in (10 ** 6, FAR - 7, FAR - 1, FAR, FAR + 1):
                    self.assertEqual(piles_after(row, hand, rounds), reached(row, hand, rounds))

    def test_far_rounds_by_hand(self):
        self.assertEqual(piles_after([2, 1], 1, FAR), FAR + 1)
        self.assertEqual(piles_after([3, 2, 1], 1, FAR), 2 * FAR + 1)
        self.assertEqual(piles_after([4, 4], 3, FAR), 1)
        self.assertEqual(piles_after(ROW, 2, FAR), FAR)

    def test_edges(self):
        for hand in HANDS:
            for rounds in (0, 1, 2, FAR):
                self.assertEqual(piles_after([], hand, rounds), 0)
                self.assertEqual(piles_after([7], hand, rounds), 1 if rounds else 0)
            for row in SOME:
                self.assertEqual(piles_after(row, hand, 0), 0)
                self.assertEqual(piles_after(row, hand, 1), number_of_piles(row, hand))


class LongRun(unittest.TestCase):

    def test_long_run(self):
        for row in SOME:
            for hand in HANDS:
                _, every, more = coming_round(row, hand)
                wanted = Fraction(more, every)
                found = long_run(row, hand)
                self.assertIsInstance(found, tuple)
                self.assertEqual(found, (wanted.numerator, wanted.denominator))

    def test_edges(self):
        for hand in HANDS:
            for row in ([], [7], [4, 4, 4], [-GREAT] * 8):
                self.assertEqual(long_run(row, hand), (0, 1))
        self.assertEqual(long_run([3, 2, 1], 1), (2, 1))
        self.assertEqual(long_run([1, 8], 6), (1, 11))

    def test_far_piles_are_as_many_as_the_long_run_tells(self):
        for row in SOME:
            for hand in HANDS:
                top, bottom = long_run(row, hand)
                rounds = FAR * bottom
                self.assertLess(abs(piles_after(row, hand, rounds) - FAR * top), 100)

    def test_the_same_wherever_the_round_begins(self):
        for row in SOME:
            for hand in HANDS:
                wanted = long_run(row, hand)
                for start in range(1, len(row)):
                    self.assertEqual(long_run(row[start:] + row[:start], hand), wanted)

    def test_not_more_with_a_greater_hand(self):
        for row in SOME:
            runs = [Fraction(*long_run(row, hand)) for hand in HANDS]
            self.assertEqual(runs, sorted(runs, reverse=True))


class LeastSteady(unittest.TestCase):

    def check(self, row, top, bottom):
        good = [hand for hand in HANDS if Fraction(*long_run(row, hand)) <= Fraction(top, bottom)]
        self.assertEqual(least_steady(row, top, bottom), min(good, default=None))

    def test_about_each_long_run(self):
        for row in NAMED:
            for hand in HANDS:
                top, bottom = long_run(row, hand)
                for times in (1, 3, GREAT):
                    self.check(row, top * times, bottom * times)
                    self.check(row, top * times + 1, bottom * times)
                    self.check(row, max(0, top * times - 1), bottom * times)
                    self.check(row, top * times, bottom * times + 1)

    def test_edges(self):
        for row in ([], [7], [4, 4, 4]):
            self.assertEqual(least_steady(row, 0, 1), 1)
            self.assertEqual(least_steady(row, FARTHEST, 1), 1)
        self.assertIs(least_steady([2, 1], 0, 1), None)
        self.assertIs(least_steady([2, 1], 1, FARTHEST), None)
        self.assertEqual(least_steady([2, 1], FARTHEST, 1), 1)
        self.assertEqual(least_steady([3, 2, 1], 2, 1), 1)
        self.assertNotEqual(least_steady([3, 2, 1], 2 * FAR - 1, FAR), 1)
        # The greatest size that is tried is 6.
        self.assertEqual(least_steady([1, 8], 1, 11), 6)
        self.assertIs(least_steady([1, 8], 1, 12), None)


class PileAt(unittest.TestCase):

    def check(self, row, hand, rounds):
        laid = piles(row * rounds, hand)
        for index, pile in enumerate(laid):
            found = pile_at(row, hand, rounds, index)
            self.assertEqual(found, told_of(pile))
        self.assertIsInstance(found, tuple)
        for index in (len(laid), len(laid) + 1, -1, -len(laid)):
            with self.assertRaises(InvalidIndex) as caught:
                pile_at(row, hand, rounds, index)
            self.assertEqual(caught.exception.value, index)

    def test_few_rounds(self):
        for row in NAMED + [[2, 0, 1, 0], [1, 1, 0], [0, 1, 1, 2]]:
            for hand in HANDS:
                for rounds in (1, 2, 3, 4, 9):
                    self.check(row, hand, rounds)

    def test_more_rounds(self):
        for row in NAMED[::3] + [ROW, [1, 8], [1, 4, 1, 3, 1, 0]]:
            for hand in (1, 2, 6):
                for rounds in (23, 40, 41):
                    self.check(row, hand, rounds)

    def test_a_few_long_piles_one_round_after_the_other(self):
        for row in ([1, 8], [8, 2, 1], [4, 4, 7], [0, 6, 2, 0], [8, 8, 3, 6]):
            for hand in (4, 5, 6):
                for rounds in range(1, 60):
                    self.check(row, hand, rounds)

    def test_far_rounds(self):
        for row in NAMED:
            for hand in HANDS:
                first, every, more, few = told_by_few(row, hand)
                if more == 0:
                    continue
                few += 3 * every
                few += (FAR - few) % every
                laid = piles(row * few, hand)
                many = piles_after(row, hand, FAR)
                # From the front, from the end, and in the middle, where the same piles stand over and over.
                for index in range(len(laid) // 2):
                    self.assertEqual(pile_at(row, hand, FAR, index), told_of(laid[index]))
                for behind in range(1, len(laid) // 2):
                    self.assertEqual(pile_at(row, hand, FAR, many - behind), told_of(laid[-behind]))
                begun = len(laid) // 2 - more
                for index in range(max(0, begun), begun + more):
                    far = index + more * (FAR // every // 2)
                    self.assertEqual(pile_at(row, hand, FAR, far)[0], pile_at(row, hand, FAR, far + more)[0])
                    self.assertEqual(pile_at(row, hand, FAR, far), pile_at(row, hand, FAR, far + 1000 * more))

    def test_all_cards_are_on_the_piles(self):
        for row in NAMED:
            for hand in HANDS:
                for rounds in (1, 30):
                    many = piles_after(row, hand, rounds)
                    cards = [pile_at(row, hand, rounds, index)[0] for index in range(many)]
                    self.assertEqual(sum(cards), rounds * len(row))

    def test_edges(self):
        for hand in HANDS:
            self.assertEqual(pile_at([7], hand, 1, 0), (1, 7, 7))
            self.assertEqual(pile_at([7], hand, FAR, 0), (FAR, 7, 7))
            self.assertEqual(pile_at([-GREAT] * 8, hand, FAR, 0), (8 * FAR, -GREAT, -GREAT))
        self.assertEqual(pile_at([2, 1], 1, FAR, 0), (1, 2, 2))
        self.assertEqual(pile_at([2, 1], 1, FAR, 1), (2, 1, 2))
        self.assertEqual(pile_at([2, 1], 1, FAR, FAR - 1), (2, 1, 2))
        self.assertEqual(pile_at([2, 1], 1, FAR, FAR), (1, 1, 1))


class Habits(unittest.TestCase):

    def test_by_position_and_by_name(self):
        for row in NAMED:
            for hand in HANDS:
                check_habits(self, comes_round, row=row, hand=hand)
                check_habits(self, long_run, row=row, hand=hand)
                for rounds in (0, 1, 7, FAR):
                    check_habits(self, piles_after, row=row, hand=hand, rounds=rounds)
                check_habits(self, pile_at, row=row, hand=hand, rounds=FAR, index=0)
            check_habits(self, least_steady, row=row, piles=1, rounds=3)
        check_habits(self, piles_after, row=[], hand=2, rounds=FAR)
        check_habits(self, long_run, row=[], hand=2)
        self.assertEqual(pile_at(index=1, rounds=5, hand=2, row=ROW), (3, 1, 3))
        self.assertEqual(least_steady(rounds=2, piles=1, row=ROW), 3)

    def test_the_row_may_change_between_two_questions(self):
        row = [2, 1]
        self.assertEqual(piles_after(row, 1, FAR), FAR + 1)
        row[1] = 2
        self.assertEqual(piles_after(row, 1, FAR), 1)
        self.assertEqual(pile_at(row, 1, FAR, 0), (2 * FAR, 2, 2))


class Refused(unittest.TestCase):

    def test_hands_that_hold_nothing_ahead_of_all_else(self):
        for hand in (0, -1, -GREAT):
            for row in ([], [3], ROW):
                check_refused(self, InvalidHand, hand, long_run, row, hand)
                for rounds in (-1, 0, 1, FAR):
                    check_refused(self, InvalidHand, hand, piles_after, row, hand, rounds)
                    for index in (-1, 0, FAR):
                        check_refused(self, InvalidHand, hand, pile_at, row, hand, rounds, index)
                if row:
                    check_refused(self, InvalidHand, hand, comes_round, row, hand)

    def test_numbers_of_rounds(self):
        for row in ([], [3], ROW):
            for rounds in (-1, -2, -FARTHEST):
                for hand in (1, 6):
                    check_refused(self, InvalidNumber, rounds, piles_after, row, hand, rounds)
                    for index in (-1, 0, FAR):
                        check_refused(self, InvalidNumber, rounds, pile_at, row, hand, rounds, index)

    def test_fractions(self):
        for row in ([], [3], ROW):
            for rounds in (0, -1, -FARTHEST):
                for number in (0, 1, FARTHEST):
                    check_refused(self, InvalidNumber, rounds, least_steady, row, number, rounds)
            for number in (-1, -2, -FARTHEST):
                for rounds in (1, 0, -1, -3):
                    check_refused(self, InvalidNumber, number, least_steady, row, number, rounds)

    def test_no_such_pile(self):
        for row in ([], [3], [4, 4], ROW, [1, 8]):
            for hand in HANDS:
                for rounds in (0, 1, 5, FAR):
                    many = piles_after(row, hand, rounds)
                    for index in (-1, -many - 1, -FARTHEST, many, many + 1, FARTHEST):
                        check_refused(self, InvalidIndex, index, pile_at, row, hand, rounds, index)
                    if many > 0:
                        self.assertGreater(pile_at(row, hand, rounds, many - 1)[0], 0)

    def test_good_questions_behind_are_answered(self):
        check_refused(self, InvalidHand, 0, piles_after, ROW, 0, 4)
        self.assertEqual(piles_after(ROW, 1, 4), 5)
        check_refused(self, InvalidNumber, -1, piles_after, ROW, 1, -1)
        self.assertEqual(piles_after(ROW, 1, 0), 0)
        check_refused(self, InvalidHand, 0, comes_round, ROW, 0)
        self.assertEqual(comes_round(ROW, 2), (2, 1, 1))
        check_refused(self, InvalidHand, 0, long_run, ROW, 0)
        self.assertEqual(long_run(ROW, 2), (1, 1))
        check_refused(self, InvalidNumber, 0, least_steady, ROW, 1, 0)
        self.assertEqual(least_steady(ROW, 1, 1), 1)
        check_refused(self, InvalidNumber, -1, least_steady, ROW, -1, 1)
        self.assertEqual(least_steady(ROW, 1, 2), 3)
        check_refused(self, InvalidIndex, 5, pile_at, ROW, 2, 5, 5)
        self.assertEqual(pile_at(ROW, 2, 5, 1), (3, 1, 3))


if __name__ == "__main__":
    unittest.main()
