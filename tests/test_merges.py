"""handpiles.merges against trying all merges of few piles: promises [2] and [3]."""

import random
import unittest
from functools import lru_cache
from itertools import combinations, product

from handpiles.errors import InvalidHand, InvalidNumber
from handpiles.merges import best_plan, depth, least_moves, least_neighbours, moves_of, sort_moves
from tests.reference import GREAT, check_habits, check_refused, hands_for, lists_inside, long_rows, mixed, piles

FAR = 10 ** 39 + 1  # 40 digits
ROW = [5, 2, 8, 1, 9, 3]
OF_TWO = [least_moves, best_plan]
FEW = [[], [5], [0], [4, 2], [0, 0], [4, 2, 1], [1, 1, 1], [0, 3, 0], [5, 1, 2, 4], [1, 1, 1, 1], [0, 0, 0, 7],
       [9, 1, 1, 9, 2], [GREAT, 1, GREAT - 1], [3, 3, 2, 2, 1, 1]]


def moves_by_words(lengths, ways, told):
    """The moves of told merges, by the words of the document."""
    there = {number: length for number, length in enumerate(lengths)}
    moves = 0
    for index, merge in enumerate(told):
        if not 2 <= len(merge) <= ways:
            return None
        taken = []
        for number in merge:
            if number not in there:
                return None
            # A number that comes again is not there any more.
            taken.append(there.pop(number))
        moves += sum(taken)
        there[len(lengths) + index] = sum(taken)
    if lengths:
        return moves if len(there) == 1 else None
    return moves


@lru_cache(maxsize=None)
def fewest_moves(lengths, ways):
    """The least number of moves, by trying each first merge; the lengths ascend."""
    if len(lengths) <= 1:
        return 0
    found = []
    for many in range(2, min(ways, len(lengths)) + 1):
        for taken in combinations(range(len(lengths)), many):
            whole = sum(lengths[place] for place in taken)
            rest = [length for place, length in enumerate(lengths) if place not in taken]
            found.append(whole + fewest_moves(tuple(sorted(rest + [whole])), ways))
    return min(found)


def moves_with_empty_piles(lengths, ways):
    """The least number of moves, by empty piles that make each merge a full one."""
    lengths = sorted(lengths)
    while (len(lengths) - 1) % (ways - 1):
        lengths.append(0)
    moves = 0
    while len(lengths) > 1:
        lengths.sort()
        lengths.append(sum(lengths[:ways]))
        moves += lengths[-1]
        del lengths[:ways]
    return moves


@lru_cache(maxsize=None)
def least_depth(number, ways):
    """The depth, by trying each last merge."""
    if number <= 1:
        return 0
    return 1 + min(max(least_depth(part, ways) for part in parts) for parts in partitions(number, ways, number - 1))


def partitions(number, ways, greatest):
    """All lists of at most so many numbers from 1 to the greatest one with a sum, descending."""
    if number == 0:
        return [[]]
    if ways == 0:
        return []
    return [[part] + rest for part in range(1, min(number, greatest) + 1)
            for rest in partitions(number - part, ways - 1, part)]


@lru_cache(maxsize=None)
def fewest_beside(lengths):
    """The least number of moves with two neighbours at a time, by trying each first merge."""
    if len(lengths) <= 1:
        return 0
    found = []
    for place in range(len(lengths) - 1):
        whole = lengths[place] + lengths[place + 1]
        found.append(whole + fewest_beside(lengths[:place] + (whole,) + lengths[place + 2:]))
    return min(found)


def some_plan(draw, many, ways):
    """Merges that may be told for so many piles, drawn one by one."""
    there = list(range(many))
    told = []
    while len(there) > 1:
        merge = draw.sample(there, draw.randint(2, min(ways, len(there))))
        there = [number for number in there if number not in merge] + [many + len(told)]
        told.append(merge)
    return told


class Moves(unittest.TestCase):

    def test_all_merges_of_few_piles(self):
        for lengths in ([], [5], [4, 2], [4, 2, 1]):
            numbers = range(-1, len(lengths) + 3)
            merges = [list(merge) for many in range(4) for merge in product(numbers, repeat=many)]
            for ways in (2, 3, FAR):
                for merge in merges:
                    self.assertEqual(moves_of(lengths, ways, [merge]), moves_by_words(lengths, ways, [merge]))
            firsts = [[], [0, 1], [0, 2], [0, 1, 2], [1, 0], [3, 0]]
            for one, other in product(firsts, merges):
                for ways in (2, 3):
                    told = [one, other]
                    self.assertEqual(moves_of(lengths, ways, told), moves_by_words(lengths, ways, told))

    def test_plans_that_are_allowed_and_changed_ones(self):
        draw = random.Random(7)
        refused = 0
        for _ in range(600):
            lengths = [draw.randint(0, 50) for _ in range(draw.randint(2, 12))]
            ways = draw.randint(2, 5)
            told = some_plan(draw, len(lengths), ways)
            wanted = moves_by_words(lengths, ways, told)
            self.assertIsNot(wanted, None)
            self.assertEqual(moves_of(lengths, ways, told), wanted)
            index = draw.randrange(len(told))
            told[index][draw.randrange(len(told[index]))] = draw.randint(-2, 2 * len(lengths) + 1)
            wanted = moves_by_words(lengths, ways, told)
            self.assertEqual(moves_of(lengths, ways, told), wanted)
            refused += wanted is None
        self.assertTrue(0 < refused < 600)

    def test_each_way_not_to_be_allowed(self):
        lengths = [4, 2, 1, 3]
        good = [[1, 2], [4, 3], [0, 5]]
        self.assertEqual(moves_of(lengths, 2, good), 3 + 6 + 10)
        self.assertEqual(moves_of(lengths, 3, [[0, 1, 2], [3, 4]]), 7 + 10)
        for ways, told in (
                # Too few numbers, and too many.
                (2, [[]] + good), (2, [[1]] + good), (2, good + [[]]), (2, good + [[6]]),
                (2, [[0, 1, 2], [3, 4]]), (3, [[0, 1, 2, 3]]),
                # A number comes twice.
                (2, [[1, 1], [4, 2], [0, 5], [3, 6]]), (3, [[0, 0, 1], [2, 3, 4]]), (3, [[0, 1, 0], [2, 3, 4]]),
                (4, [[0, 1, 2, 3, 3]]), (5, [[0, 1, 2, 3, 3]]),
                # Piles that never are there, are there no more, or are not there yet.
                (2, [[1, 2], [4, 3], [0, 6]]), (2, [[1, 2], [4, 3], [0, -1]]), (2, [[1, 2], [4, 3], [0, FAR]]),
                (2, [[1, 2], [2, 3], [0, 5]]), (2, [[1, 2], [4, 3], [4, 0]]), (2, [[1, 4], [2, 3], [0, 5]]),
                (2, [[1, 5], [2, 3], [0, 4]]), (2, [[1, 2], [-FAR, 3], [0, 5]]),
                # Not one pile at the end, or a merge behind it.
                (2, []), (2, good[:1]), (2, good[:2]), (3, [[0, 1, 2]]), (2, good + [[6, 6]]), (2, good + [[5, 6]])):
            self.assertIs(moves_of(lengths, ways, told), None, (ways, told))

    def test_no_pile_and_one(self):
        for ways in (2, 3, FAR):
            self.assertEqual(moves_of([], ways, []), 0)
            self.assertEqual(moves_of([5], ways, []), 0)
            for told in ([[]], [[0]], [[0, 0]], [[0, 1]], [[0, 1, 2]], [[-1, 0]]):
                self.assertIs(moves_of([], ways, told), None)
                self.assertIs(moves_of([5], ways, told), None)
        self.assertEqual(moves_of([0, 0], 2, [[0, 1]]), 0)
        self.assertEqual(moves_of([0, 0], 2, [[1, 0]]), 0)

    def test_sixty_piles(self):
        draw = random.Random(11)
        lengths = [draw.randint(0, GREAT) for _ in range(60)]
        for ways in (2, 3, 10, 60, FAR):
            told = some_plan(draw, 60, ways)
            self.assertEqual(moves_of(lengths, ways, told), moves_by_words(lengths, ways, told))
        self.assertEqual(moves_of(lengths, 60, [list(range(60))]), sum(lengths))
        self.assertIs(moves_of(lengths, 59, [list(range(60))]), None)


class Plans(unittest.TestCase):

    def check(self, lengths, ways, wanted):
        self.assertEqual(least_moves(lengths, ways), wanted)
        plan = best_plan(lengths, ways)
        self.assertEqual(moves_by_words(lengths, ways, plan), wanted)
        self.assertEqual(moves_of(lengths, ways, plan), wanted)
        inside = lists_inside(plan)
        self.assertEqual(len({id(one) for one in inside}), len(inside))
        self.assertTrue(all(isinstance(merge, list) for merge in plan))

    def test_against_all_merges_of_few_piles(self):
        draw = random.Random(3)
        rows = FEW + [[draw.randint(0, 9) for _ in range(many)] for many in (5, 5, 6, 6)]
        for lengths in rows:
            for ways in (2, 3, 4, 5, 6, 7, FAR):
                self.check(lengths, ways, fewest_moves(tuple(sorted(lengths)), ways))

    def test_many_piles(self):
        draw = random.Random(5)
        for many in (1, 2, 20, 59, 60):
            for most in (0, 1, 9, GREAT):
                lengths = [draw.randint(0, most) for _ in range(many)]
                for ways in (2, 3, 7, 31, 59, 60, 61):
                    self.check(lengths, ways, moves_with_empty_piles(lengths, ways))
                self.check(lengths, FAR, sum(lengths) if many > 1 else 0)

    def test_edges(self):
        for ways in (2, 3, FAR):
            self.assertEqual(best_plan([], ways), [])
            self.assertEqual(best_plan([5], ways), [])
            self.assertEqual(least_moves([], ways), 0)
            self.assertEqual(least_moves([5], ways), 0)
            self.assertEqual(sorted(best_plan([4, 2], ways)[0]), [0, 1])
        self.assertEqual(sorted(best_plan([1, 9, 1], 2)[0]), [0, 2])


class Depth(unittest.TestCase):

    def test_against_all_trees(self):
        for number in range(18):
            for ways in range(2, 6):
                self.assertEqual(depth(number, ways), least_depth(number, ways))

    def test_near_the_powers_of_the_ways(self):
        for ways in (2, 3, 4, 7, 10, 999, GREAT, FAR):
            power = ways
            found = 1
            while power < 10 ** 40:
                self.assertEqual(depth(power, ways), found)
                self.assertEqual(depth(power + 1, ways), found + 1)
                self.assertEqual(depth(power - 1, ways), found if power > 2 else 0)
                power *= ways
                found += 1

    def test_numbers_of_forty_digits(self):
        self.assertEqual(depth(10 ** 39, 10), 39)
        self.assertEqual(depth(10 ** 39 + 1, 10), 40)
        self.assertEqual(depth(10 ** 40 - 1, 10), 40)
        self.assertEqual(depth(10 ** 40 - 1, 2), 133)
        self.assertEqual(depth(10 ** 40 - 1, 10 ** 40 - 1), 1)
        self.assertEqual(depth(10 ** 40 - 1, 10 ** 40 - 2), 2)

    def test_edges(self):
        for ways in (2, 3, FAR):
            self.assertEqual(depth(0, ways), 0)
            self.assertEqual(depth(1, ways), 0)
            self.assertEqual(depth(2, ways), 1)


class Neighbours(unittest.TestCase):

    def test_against_all_merges_of_few_piles(self):
        draw = random.Random(9)
        rows = FEW + [[draw.randint(0, most) for _ in range(many)]
                      for many in (4, 5, 6, 7, 8, 9, 10) for most in (2, 9, GREAT)]
        for lengths in rows:
            self.assertEqual(least_neighbours(lengths), fewest_beside(tuple(lengths)))

    def test_edges(self):
        self.assertEqual(least_neighbours([]), 0)
        self.assertEqual(least_neighbours([GREAT]), 0)
        self.assertEqual(least_neighbours([GREAT, 1]), GREAT + 1)
        self.assertEqual(least_neighbours([0, 0, 0]), 0)
        self.assertEqual(least_neighbours([1, 1, 9]), 13)
        self.assertEqual(least_neighbours([1, 9, 1]), 21)
        # More than ten are beyond the limit, and are answered all the same.
        self.assertEqual(least_neighbours([1] * 32), 160)

    def test_never_fewer_than_of_any_two_piles(self):
        for lengths in FEW:
            self.assertGreaterEqual(least_neighbours(lengths), least_moves(lengths, 2))


class Sorting(unittest.TestCase):

    def test_sort_moves(self):
        for row in long_rows():
            for hand in hands_for(row):
                lengths = [len(pile) for pile in piles(row, hand)]
                for ways in (2, 3, 10, FAR):
                    merged = moves_with_empty_piles(lengths, min(ways, 61))
                    self.assertEqual(sort_moves(row, hand, ways), len(row) + merged)

    def test_edges(self):
        for hand in (1, 2, GREAT):
            for ways in (2, FAR):
                self.assertEqual(sort_moves([], hand, ways), 0)
                self.assertEqual(sort_moves([7], hand, ways), 1)
                self.assertEqual(sort_moves([1, 2, 3], hand, ways), 3)
        self.assertEqual(sort_moves([3, 2, 1], 1, 2), 3 + 2 + 3)
        self.assertEqual(sort_moves([3, 2, 1], 1, 3), 3 + 3)


class Habits(unittest.TestCase):

    def test_by_position_and_by_name(self):
        for lengths in FEW:
            for ways in (2, 3, FAR):
                for function in OF_TWO:
                    check_habits(self, function, lengths=lengths, ways=ways)
                check_habits(self, moves_of, lengths=lengths, ways=ways, told=best_plan(lengths, ways))
                check_habits(self, moves_of, lengths=lengths, ways=ways, told=[[0, 1], [1, 2]])
            check_habits(self, least_neighbours, lengths=lengths)
        check_habits(self, depth, number=9, ways=3)
        for row in ([], ROW, mixed(20, 9, 2)):
            check_habits(self, sort_moves, row=row, hand=2, ways=3)
        self.assertEqual(moves_of(told=[[1, 2], [0, 3]], ways=2, lengths=[4, 2, 1]), 10)
        self.assertEqual(sort_moves(ways=2, hand=2, row=ROW), 12)
        self.assertEqual(depth(ways=3, number=10), 3)


class Refused(unittest.TestCase):

    BAD = [([-1], -1), ([3, -2, -5], -2), ([0, 0, -FAR], -FAR), ([5] * 59 + [-1], -1), ([-3, -2], -3)]

    def test_lengths_ahead_of_ways(self):
        for lengths, value in self.BAD:
            for ways in (2, FAR, 1, 0, -1):
                for function in OF_TWO:
                    check_refused(self, InvalidNumber, value, function, lengths, ways)
                for told in ([], [[0, 1]], [[9]]):
                    check_refused(self, InvalidNumber, value, moves_of, lengths, ways, told)
            check_refused(self, InvalidNumber, value, least_neighbours, lengths)

    def test_ways(self):
        for ways in (1, 0, -1, -FAR):
            for lengths in ([], [5], [4, 2, 1]):
                for function in OF_TWO:
                    check_refused(self, InvalidNumber, ways, function, lengths, ways)
                for told in ([], [[0, 1]], [[9]]):
                    check_refused(self, InvalidNumber, ways, moves_of, lengths, ways, told)
            for number in (0, 1, 9, FAR):
                check_refused(self, InvalidNumber, ways, depth, number, ways)
            for row in ([], [7], ROW):
                check_refused(self, InvalidNumber, ways, sort_moves, row, 2, ways)

    def test_numbers_ahead_of_ways(self):
        for number in (-1, -2, -FAR):
            for ways in (2, FAR, 1, 0, -1):
                check_refused(self, InvalidNumber, number, depth, number, ways)

    def test_hands_ahead_of_ways(self):
        for hand in (0, -1, -GREAT):
            for ways in (2, FAR, 1, 0, -1):
                for row in ([], [7], ROW):
                    check_refused(self, InvalidHand, hand, sort_moves, row, hand, ways)

    def test_good_questions_behind_are_answered(self):
        check_refused(self, InvalidNumber, 1, least_moves, [4, 2], 1)
        self.assertEqual(least_moves([4, 2], 2), 6)
        self.assertIs(moves_of([4, 2], 2, [[0, 0]]), None)
        self.assertEqual(moves_of([4, 2], 2, [[0, 1]]), 6)


if __name__ == "__main__":
    unittest.main()
