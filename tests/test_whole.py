"""What the files promise together: promise [9], and [2], [4] to [8] from one file to another."""

import unittest

from handpiles.changes import drawn_by, piles_by
from handpiles.edits import piles_with, piles_without
from handpiles.errors import NotFitting
from handpiles.hands import (card_keys, fronts, hands_met, least_hand, number_of_piles, piles_of,
                             plain_way, sizes)
from handpiles.leads import is_ahead, keys_of, late_cards, piles_from
from handpiles.live import FreeTable, Table
from handpiles.merges import best_plan, moves_of, sort_moves
from handpiles.orders import are_lengths, first_order, lengths_counted, row_of_lengths
from handpiles.papers import paper, shown
from handpiles.passes import pass_once
from handpiles.readings import read_piles, read_row, read_way
from handpiles.rounds import long_run, pile_at, piles_after
from handpiles.sources import (count_rows, first_row, greatest_source_hand, index_of, places, row_at,
                               rows_for, sizes_for, windows)
from handpiles.tables import laid_table, most_shown
from handpiles.texts import show_piles, show_row, show_way
from handpiles.turns import piles_turned
from handpiles.ways import count_ways, first_behind, first_fault, fronts_of, going_on, is_beginning
from tests.reference import GREAT, all_ways, beginnings, hands_for, long_rows, mixed, next_entries, small_rows

SOME = small_rows(4, 3) + [[5, 2, 8, 1, 9, 3], [2, 2, 1, 1, 0, 2]]


def table_of(row, hand):
    """A table that was given a row."""
    table = Table(hand)
    for card in row:
        table(card)
    return table


def different(row):
    return list(dict.fromkeys(row))


def entries(row, way):
    return [(row[index], pile) for index, pile in way]


class Texts(unittest.TestCase):

    def test_rows_by_text(self):
        for row in long_rows():
            text = show_row(row)
            for hand in hands_for(row):
                self.assertEqual(piles_of(read_row(text), hand), piles_of(row, hand))
                told = piles_of(row, hand)
                self.assertEqual(read_piles(show_piles(told)), told)
                self.assertEqual(read_row(show_row(pass_once(row, hand))), [card for pile in told for card in pile])
                way = read_way(show_way(plain_way(row, hand)))
                self.assertIs(first_fault(read_row(text), hand, way), None)
                self.assertIs(first_behind(read_row(text), hand, way), None)

    def test_beginnings_by_text(self):
        for row in SOME[:60]:
            for told in beginnings(row, 2):
                self.assertEqual(going_on(row, 2, read_way(show_way(told))), going_on(row, 2, told))

    def test_what_a_table_tells_by_text(self):
        for row in long_rows():
            table = table_of(row, 3)
            self.assertEqual(read_row(show_row(table.hand())), table.hand())
            self.assertEqual(read_piles(show_piles(table.piles())), table.piles())


class Sources(unittest.TestCase):

    def test_piles_of_told_rows(self):
        for start in range(6):
            row = different(mixed(7, 10 ** 6, start))
            for hand in (1, 2, 3, len(row)):
                told = piles_of(row, hand)
                many = count_rows(told, hand)
                self.assertEqual(row_at(told, hand, index_of(told, hand, row)), row)
                for found in [row_at(told, hand, at) for at in range(0, many, 1 + many // 100)]:
                    self.assertEqual(piles_of(found, hand), told)
                    least, greatest = sizes_for(found, told)
                    self.assertTrue(least <= hand <= greatest <= greatest_source_hand(told))
                    self.assertEqual(piles_of(found, least), told)
                    self.assertEqual(piles_of(found, greatest), told)

    def test_with_each_lesser_hand_there_is_a_row_too(self):
        for start in range(12):
            told = piles_of(different(mixed(9, 10 ** 6, start)), 3)
            for hand in range(1, 10):
                found = first_row(told, hand)
                self.assertIs(found is None, hand > greatest_source_hand(told))
                if found is not None:
                    self.assertEqual(piles_of(found, hand), told)

    def test_long_rows_stand_within_the_windows_of_their_piles(self):
        for row in long_rows():
            row = different(row)
            for hand in hands_for(row):
                told = piles_of(row, hand)
                spans = dict(zip([card for pile in told for card in pile], windows(told, hand)))
                for index, card in enumerate(row):
                    self.assertTrue(spans[card][0] <= index <= spans[card][1])
                if row:
                    least, greatest = sizes_for(row, told)
                    self.assertTrue(least <= min(hand, len(row)) <= greatest)

    def test_a_table_that_is_given_a_told_row_has_the_told_piles(self):
        told = [[2, 5, 8, 9], [1, 3]]
        for hand in range(1, greatest_source_hand(told) + 1):
            for found in rows_for(told, hand):
                table = table_of(found, hand)
                table.finish()
                self.assertEqual(table.piles(), told)
                self.assertEqual([found.index(card) in stands
                                  for card, stands in zip([2, 5, 8, 9, 1, 3], places(told, hand))], [True] * 6)


class Orders(unittest.TestCase):

    def test_orders_and_their_piles(self):
        for number in range(6):
            for hand in (1, 2, 3, GREAT):
                for lengths, orders in lengths_counted(number, hand):
                    self.assertIs(are_lengths(lengths, hand), True)
                    row = row_of_lengths(lengths, hand)
                    told = piles_of(row, hand)
                    self.assertEqual([len(pile) for pile in told], lengths)
                    self.assertLessEqual(count_rows(told, hand), orders)
                    least = first_order(number, hand, len(lengths))
                    self.assertEqual(number_of_piles(least, hand), len(lengths))
                    self.assertLessEqual(least, row)

    def test_lengths_of_each_row(self):
        for row in long_rows():
            for hand in hands_for(row):
                self.assertIs(are_lengths([len(pile) for pile in piles_of(row, hand)], hand), True)


class Tables(unittest.TestCase):

    def test_a_table_lays_the_plain_way(self):
        for row in long_rows() + SOME:
            for hand in hands_for(row):
                table = table_of(row, hand)
                early = max(0, len(row) - hand)
                self.assertEqual(table.laid(), entries(row, plain_way(row, hand))[:early])
                held = hands_met(row, hand)[early] if row else []
                self.assertEqual(table.hand(), sorted(row[index] for index in held))
                table.finish()
                self.assertEqual(table.laid(), entries(row, plain_way(row, hand)))
                self.assertEqual(table.piles(), piles_of(row, hand))
                self.assertEqual(len(table.piles()), number_of_piles(row, hand))

    def test_keys_of_a_table(self):
        for row in SOME:
            for hand in (1, 2, 3):
                table = table_of(row, hand)
                laid = len(table)
                keys = keys_of(row, hand, plain_way(row, hand)[:laid])
                self.assertEqual(sorted(card for _, card in keys), table.hand())
                found = card_keys(row, hand)
                self.assertEqual(keys, sorted(found)[laid:])

    def test_rounds_at_a_table(self):
        for row in ([3, 1, 2], [5, 2, 8, 1, 9, 3], [2, 0, 1, 0], [4, 4], [1, 8], [7], [GREAT, -GREAT, 0]):
            for hand in (1, 2, 4, 6):
                for rounds in (0, 1, 2, 5, 16):
                    table = table_of(row * rounds, hand)
                    table.finish()
                    found = table.piles()
                    self.assertEqual(len(found), piles_after(row, hand, rounds))
                    for index, pile in enumerate(found):
                        self.assertEqual(pile_at(row, hand, rounds, index), (len(pile), pile[0], pile[-1]))

    def test_the_long_run_at_a_table(self):
        for row in ([3, 1, 2], [5, 2, 8, 1, 9, 3], [2, 0, 1, 0], [4, 4], [1, 8]):
            for hand in (1, 2, 6):
                piles, rounds = long_run(row, hand)
                table = table_of(row * 20, hand)
                before = len(table.piles())
                for card in row * (rounds * 3):
                    table(card)
                self.assertEqual(len(table.piles()) - before, piles * 3)

    def grown(self, row, growing):
        """A table whose hand is resized before each card that is laid, and how many were given by then."""
        table = Table(growing[0])
        given = 0
        drawn = []
        for laid in range(len(row)):
            size = growing[min(laid, len(growing) - 1)]
            if size != table.size:
                self.assertEqual(table.resize(size), [])
            while given < len(row) and len(table.hand()) < size:
                self.assertIs(table(row[given]), None)
                given += 1
            drawn.append(given)
            if given == len(row):
                break
            table(row[given])
            given += 1
        table.finish()
        return table, drawn + [len(row)] * (len(row) - len(drawn))

    def test_a_hand_that_grows(self):
        for row in long_rows() + SOME:
            for growing in ([1], [1, 3], [1, 1, 2, 5], [2, 3, 4, 5, 6, 7], [1] * 7 + [40], [3, 3, 3, 8], [40]):
                table, drawn = self.grown(row, growing)
                self.assertEqual(table.piles(), piles_by(row, growing))
                self.assertEqual(drawn, drawn_by(row, growing))

    def test_a_hand_that_shrinks_to_one_lays_as_at_the_end(self):
        for row in long_rows() + SOME:
            table = table_of(row, 5)
            tail = table.hand()
            laid = table.resize(1)
            self.assertEqual(len(laid), max(0, len(tail) - 1))
            table.finish()
            self.assertEqual(table.piles(), piles_of(row, 5))


class FreeTables(unittest.TestCase):

    def lead(self, row, hand, told):
        """A free table on which the entries of a beginning were laid."""
        free = FreeTable(hand)
        rest = list(row)
        for card in rest[:hand]:
            self.assertIs(free(card), None)
        rest = rest[hand:]
        for index, pile in told:
            begins = len(free) > 0 and pile > free.laid()[-1][1]
            self.assertEqual(free.lay(row[index], begins), pile)
            if rest:
                free(rest.pop(0))
        return free

    def test_ways_on_a_free_table(self):
        for row in small_rows(3, 3) + [[3, 1, 2, 0], [1, 1, 0, 1], [2, 0, 2, 1]]:
            for hand in range(1, len(row) + 2):
                for way in all_ways(row, hand):
                    free = self.lead(row, hand, way)
                    self.assertEqual(free.laid(), entries(row, way))
                    ends = [sum(len(pile) for pile in free.piles()[:many + 1]) for many in range(len(free.piles()))]
                    self.assertEqual(ends, fronts_of(row, hand, way))
                    for _ in range(len(row)):
                        free.undo()
                    self.assertLess(len(free), max(1, len(row)))

    def test_going_on_at_a_free_table(self):
        for row in small_rows(3, 3) + [[3, 1, 2, 0], [1, 1, 0, 1], [2, 0, 2, 1]]:
            for hand in range(1, len(row) + 2):
                for told in beginnings(row, hand):
                    if len(told) + hand < len(row):
                        continue
                    free = self.lead(row, hand, told)
                    self.assertEqual(free.hand(), sorted(card for _, card in keys_of(row, hand, told)))
                    on = entries(row, going_on(row, hand, told))
                    self.assertEqual(free.finish(), on[len(told):])
                    self.assertEqual(free.laid(), on)
                    self.assertEqual(len(free.piles()), piles_from(row, hand, told))

    def test_a_free_table_lays_what_is_allowed_and_nothing_else(self):
        for row in ([3, 1, 2, 0], [2, 0, 2, 1], [1, 2, 3]):
            for hand in (1, 2, 3):
                for told in beginnings(row, hand):
                    self.check_next(row, hand, told)

    def check_next(self, row, hand, told):
        present = told[-1][1] if told else 0
        allowed = {(row[index], pile) for index, pile in next_entries(row, hand, told)}
        for index in range(len(row)):
            for begins in (True, False):
                free = self.lead(row, hand, told)
                pile = present + 1 if begins and told else present
                if (row[index], pile) in allowed:
                    self.assertEqual(free.lay(row[index], begins), pile)
                else:
                    with self.assertRaises(NotFitting):
                        free.lay(row[index], begins)
                self.assertIs(is_beginning(row, hand, told + [(index, pile)]),
                              (index, pile) in next_entries(row, hand, told))

    def test_the_plain_way_on_a_free_table_is_that_of_a_table(self):
        for row in long_rows():
            for hand in (1, 2, 7, 40):
                free = self.lead(row, hand, plain_way(row, hand))
                table = table_of(row, hand)
                table.finish()
                self.assertEqual(free.laid(), table.laid())
                self.assertIs(free == table, False)
                self.assertIs(table == free, False)


class Together(unittest.TestCase):

    def test_all_ways_to_tell_the_number_of_piles_tell_the_same(self):
        for row in long_rows():
            for hand in hands_for(row):
                wanted = number_of_piles(row, hand)
                self.assertEqual(len(piles_of(row, hand)), wanted)
                self.assertEqual(len(fronts(row, hand)), wanted)
                self.assertEqual(len(piles_turned(row, hand, [])), wanted)
                self.assertEqual(len(piles_by(row, [hand])), wanted)
                self.assertEqual(shown(row, hand, paper(row, hand)), wanted)
                self.assertEqual(most_shown(row, hand, laid_table(row, hand)), wanted)
                self.assertEqual(piles_from(row, hand, []), wanted)
                self.assertEqual(max([pile + 1 for pile, _ in card_keys(row, hand)], default=0), wanted)
                self.assertLessEqual(least_hand(row, max(1, wanted)), hand)
                self.assertEqual([piles for size, piles in sizes(row) if size <= hand][-1], wanted)
        for row in SOME:
            for hand in (1, 2, 3):
                self.assertEqual(piles_after(row, hand, 1), number_of_piles(row, hand))

    def test_no_way_has_fewer_piles_nor_a_card_on_a_lesser_pile(self):
        for row in small_rows(4, 2) + [[3, 1, 2, 0], [2, 0, 2, 1]]:
            for hand in range(1, len(row) + 2):
                plain = plain_way(row, hand)
                counted = [0] * (len(row) + 1)
                for way in all_ways(row, hand):
                    counted[1 + max([pile for _, pile in way], default=-1)] += 1
                    late = [index for index, pile in way if pile > dict(plain)[index]]
                    self.assertEqual(late_cards(row, hand, way), sorted(late))
                    self.assertTrue(all(pile >= dict(plain)[index] for index, pile in way))
                    for laid in range(len(row) + 1):
                        self.assertIs(is_ahead(row, hand, plain[:laid], way[:laid]), True)
                self.assertEqual(count_ways(row, hand), counted)
                fewest = min(many for many, ways in enumerate(counted) if ways)
                self.assertEqual(fewest, number_of_piles(row, hand))

    def test_merging_the_piles_of_a_table(self):
        for row in long_rows():
            for hand in (1, 2, 7, 40):
                table = table_of(row, hand)
                table.finish()
                lengths = [len(pile) for pile in table.piles()]
                for ways in (2, 3, 8):
                    moves = moves_of(lengths, ways, best_plan(lengths, ways))
                    self.assertEqual(sort_moves(row, hand, ways), len(table) + moves)

    def test_a_card_put_in_is_taken_out_again(self):
        for row in SOME:
            for hand in (1, 2, 3):
                for card in (-1, 1, 9):
                    for place, piles in enumerate(piles_with(row, hand, card)):
                        longer = row[:place] + [card] + row[place:]
                        self.assertEqual(piles, number_of_piles(longer, hand))
                        self.assertEqual(piles_without(longer, hand)[place], number_of_piles(row, hand))

    def test_bounds_on_the_piles(self):
        for row in long_rows() + SOME:
            for hand in hands_for(row):
                told = piles_of(row, hand)
                self.assertTrue(all(len(pile) >= hand for pile in told[:-1]))
                self.assertLessEqual(len(told), (len(row) + hand - 1) // hand)
                hindered = any(len([one for one in row[:index] if one > card]) >= hand for index, card in enumerate(row))
                self.assertIs(len(told) <= 1, not hindered)
                passed = pass_once(row, hand)
                for lesser in sorted({1, min(2, hand), (hand + 1) // 2, hand}):
                    self.assertEqual(piles_of(passed, lesser), told)
                    self.assertEqual(plain_way(passed, lesser), [(place, pile) for place, (_, pile)
                                                                 in enumerate(plain_way(row, hand))])


if __name__ == "__main__":
    unittest.main()
