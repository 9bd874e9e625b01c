"""The examples of the document, word for word, and those of README.md."""

import doctest
import os
import unittest

HANDS = r"""
>>> from handpiles.hands import card_keys, fronts, hands_met, least_hand, number_of_piles, piles_of, plain_way, sizes
>>> row = [5, 2, 8, 1, 9, 3]
>>> [plain_way(row, 2), piles_of(row, 2), fronts(row, 2), piles_of(row, 1), number_of_piles(row, 3), least_hand(row, 1), least_hand(row, 3), sizes(row)]
[[(1, 0), (0, 0), (2, 0), (4, 0), (3, 1), (5, 1)], [[2, 5, 8, 9], [1, 3]], [4, 6], [[5], [2, 8], [1, 9], [3]], 2, 4, 2, [(1, 4), (2, 2), (4, 1)]]
>>> [hands_met(row, 2), piles_of([], 3), sizes([]), piles_of([4, 4, 4], 2)]
[[[0, 1], [0, 2], [2, 3], [3, 4], [3, 5], [5]], [], [(1, 0)], [[4, 4, 4]]]
>>> card_keys(row, 2)
[(0, 5), (0, 2), (0, 8), (1, 1), (0, 9), (1, 3)]
"""

WAYS = r"""
>>> from handpiles.ways import count_ways, first_behind, first_fault, fronts_of, going_on, is_beginning
>>> row = [5, 2, 8, 1, 9, 3]
>>> told = [(0, 0), (2, 0), (1, 1), (4, 1), (3, 2), (5, 2)]
>>> [first_fault(row, 2, told), first_fault(row, 2, told[:2]), first_fault(row, 2, [(0, 0), (1, 0)]), is_beginning(row, 2, told[:3]), fronts_of(row, 2, told), first_behind(row, 2, told)]
[None, 2, 1, True, [2, 4, 6], 0]
>>> [going_on(row, 2, [(0, 0)]), count_ways([2, 1], 1), count_ways([2, 1], 2), count_ways([], 1)]
[[(0, 0), (2, 0), (3, 1), (1, 1), (5, 1), (4, 1)], [0, 0, 1], [0, 1, 2], [1]]
"""

LEADS = r"""
>>> from handpiles.leads import is_ahead, keys_of, late_cards, piles_from
>>> row = [5, 2, 8, 1, 9, 3]
>>> [keys_of(row, 2, []), keys_of(row, 2, [(0, 0)]), keys_of(row, 2, [(1, 0)]), is_ahead(row, 2, [(1, 0)], [(0, 0)]), is_ahead(row, 2, [(0, 0)], [(1, 0)]), piles_from(row, 2, [(0, 0), (2, 1)]), late_cards(row, 2, [(0, 0), (2, 1)])]
[[(0, 2), (0, 5)], [(0, 8), (1, 2)], [(0, 5), (0, 8)], True, False, 3, [2]]
"""

PAPERS = r"""
>>> from handpiles.papers import first_gap, paper, shown
>>> row = [3, 1, 2]
>>> [shown(row, 1, [(0, []), (1, [0]), (1, [1])]), shown(row, 1, [(0, []), (0, []), (0, [])]), first_gap(row, 1, [(0, []), (1, [0]), (2, [1])]), first_gap(row, 2, [(0, []), (1, [0]), (0, [])]), shown(row, 2, paper(row, 2)), shown([], 2, [])]
[2, 1, 2, 1, 1, 0]
"""

TABLES = r"""
>>> from handpiles.tables import first_breach, laid_table, most_shown, values_of
>>> row = [3, 1, 2, 1]
>>> [values_of(row), laid_table(row, 1), laid_table(row, 2), first_breach(row, 1, [[0, 0, 1]]), first_breach(row, 1, [[0, 0, 0]]), first_breach(row, 1, [[0, 0]]), most_shown(row, 1, [[0, 0, 1]]), most_shown(row, 1, laid_table(row, 1))]
[[1, 2, 3], [[0, 0, 1], [1, 1, 1], [2, 1, 1]], [[1, 1, 1], [2, 1, 1]], None, (0, 2), (0, 2), 2, 3]
"""

PASSES = r"""
>>> from handpiles.passes import at_rest, chained, greatest_rest, needed, one_instead, pass_once
>>> row = [5, 2, 8, 1, 9, 3]
>>> [pass_once(row, 2), at_rest(row, 1), at_rest(row, 2), greatest_rest(row), greatest_rest([2, 5, 8, 9, 1, 3]), chained(row, [2, 4]), chained(row, [4, 2]), needed([3, 2, 3, 4]), one_instead([2, 4])]
[[2, 5, 8, 9, 1, 3], True, False, 1, 4, [2, 5, 8, 9, 1, 3], [1, 2, 3, 5, 8, 9], [3, 4], 5]
"""

CHANGES = r"""
>>> from handpiles.changes import drawn_by, is_never_less, latest_change, piles_by
>>> row = [5, 2, 8, 1, 9, 3]
>>> [piles_by(row, [1, 3]), piles_by(row, [3, 1]), drawn_by(row, [3, 1]), latest_change(row, 1, 4, 2), latest_change(row, 1, 4, 1), latest_change(row, 1, 2, 1), is_never_less(row, [1, 3], [2]), is_never_less(row, [3], [1, 3])]
[[[5, 8, 9], [1, 2, 3]], [[2, 5, 8], [1, 9], [3]], [3, 3, 3, 4, 5, 6], 1, 0, None, False, True]
"""

TURNS = r"""
>>> from handpiles.turns import by_turns, least_turned, piles_turned
>>> row = [5, 2, 8, 1, 9, 3]
>>> [piles_turned(row, 2, [True]), least_turned(row, 1), least_turned(row, 2), least_turned([], 3), by_turns(row, 1)]
[[[5, 2, 1], [8, 9], [3]], (3, [True, True, True]), (2, [False, False]), (0, []), [[5], [2], [8], [1], [9], [3]]]
"""

ROUNDS = r"""
>>> from handpiles.rounds import comes_round, least_steady, long_run, pile_at, piles_after
>>> row = [3, 1, 2]
>>> [piles_after(row, 1, 4), piles_after(row, 2, 10 ** 30), comes_round(row, 1), comes_round(row, 2), long_run(row, 2), least_steady(row, 1, 1), least_steady(row, 1, 2), pile_at(row, 2, 5, 1), piles_after([], 2, 9), pile_at([4, 4], 1, 10 ** 30, 0)]
[5, 1000000000000000000000000000000, (1, 1, 1), (2, 1, 1), (1, 1), 1, 3, (3, 1, 3), 0, (2000000000000000000000000000000, 4, 4)]
"""

ORDERS = r"""
>>> from handpiles.orders import are_lengths, counts, first_order, lengths_counted, mean, row_of_lengths
>>> [counts(3, 1), counts(3, 2), counts(0, 5), mean(3, 1), mean(3, 2), first_order(3, 2, 2), first_order(3, 2, 3), lengths_counted(3, 2), are_lengths([1, 2], 2), row_of_lengths([2, 3, 1], 2), row_of_lengths([], 1)]
[[0, 1, 4, 1], [0, 4, 2, 0], [1], (2, 1), (4, 3), [1, 2, 0], None, [([2, 1], 2), ([3], 4)], False, [4, 5, 1, 2, 3, 0], []]
"""

SOURCES = r"""
>>> from handpiles.sources import count_rows, first_row, greatest_source_hand, index_of, places, row_at, rows_for, sizes_for, windows
>>> told = [[2, 5, 8, 9], [1, 3]]
>>> [windows(told, 2), count_rows(told, 2), first_row(told, 2), rows_for([[1, 2], [0]], 2), greatest_source_hand(told), count_rows([[1], [0]], 2), rows_for([], 1)]
[[(0, 1), (0, 2), (0, 3), (0, 4), (2, 5), (3, 5)], 26, [2, 5, 1, 8, 9, 3], [[1, 2, 0], [2, 1, 0]], 4, 0, [[]]]
>>> [row_at([[1, 2], [0]], 2, 1), index_of([[1, 2], [0]], 2, [2, 1, 0]), index_of([[1, 2], [0]], 2, [0, 1, 2]), places([[1, 2], [0]], 2), sizes_for([5, 2, 8, 1, 9, 3], told), sizes_for([2, 5, 8, 9, 1, 3], told)]
[[2, 1, 0], 1, None, [[0, 1], [0, 1], [2]], (2, 3), (1, 4)]
"""

EDITS = r"""
>>> from handpiles.edits import best_exchange, best_in, best_out, first_outs, least_outs, piles_with, piles_without
>>> row = [2, 1, 3, 0]
>>> [piles_without(row, 1), best_out(row, 1), piles_with(row, 1, 4), best_in(row, 1, 4), best_exchange(row, 1), best_exchange([0, 1], 1), least_outs(row, 1, 1), first_outs(row, 1, 1), best_out([], 1)]
[[2, 2, 3, 2], 0, [4, 3, 4, 3, 3], 1, 0, None, 2, [0, 3], None]
"""

MERGES = r"""
>>> from handpiles.merges import best_plan, depth, least_moves, least_neighbours, moves_of, sort_moves
>>> [least_moves([4, 2], 2), least_moves([4, 2, 1], 2), least_moves([4, 2, 1], 3), least_moves([5], 2), least_moves([1, 1, 1, 1], 3), sort_moves([5, 2, 8, 1, 9, 3], 2, 2), depth(9, 3), depth(10, 3), depth(1, 2), least_neighbours([1, 9, 1]), least_moves([1, 9, 1], 2)]
[6, 10, 7, 0, 6, 12, 2, 3, 0, 21, 13]
>>> [moves_of([4, 2, 1], 2, [[1, 2], [0, 3]]), moves_of([4, 2, 1], 2, [[0, 1], [3, 2]]), moves_of([4, 2, 1], 2, [[0, 1, 2]]), moves_of([4, 2], 2, []), moves_of([4, 2, 1], 2, best_plan([4, 2, 1], 2))]
[10, 13, None, None, 10]
"""

LIVE = r"""
>>> from handpiles.live import FreeTable, Table
>>> table = Table(2)
>>> [table(5), table(2), table(8), table(1), table.hand(), table.finish(), table.piles(), len(table), table.undo(), table.hand()]
[None, None, (2, 0), (5, 0), [1, 8], [(8, 0), (1, 1)], [[2, 5, 8], [1]], 4, None, [1, 8]]
>>> free = FreeTable(2)
>>> [free(5), free(2), free.lay(5, False), free.lay(2, True), free.laid(), free == Table(2), free.size]
[None, None, 0, 1, [(5, 0), (2, 1)], False, 2]
"""

READINGS = r"""
>>> from handpiles.readings import read_piles, read_row, read_way
>>> from handpiles.texts import show_piles, show_row, show_way
>>> [show_row([5, -2, 8]), read_row("-"), show_piles([[2, 5], [1]]), read_piles("2 5 | 1"), show_way([(1, 0), (0, 1)]), read_way("1:0 0:1"), read_row("-7")]
['5 -2 8', [], '2 5 | 1', [[2, 5], [1]], '1:0 0:1', [(1, 0), (0, 1)], [-7]]
"""

README = os.path.join(os.path.dirname(os.path.dirname(os.path.abspath(__file__))), "README.md")


class Examples(unittest.TestCase):

    def check(self, text, name):
        test = doctest.DocTestParser().get_doctest(text, {}, name, name, 0)
        report = []
        results = doctest.DocTestRunner(verbose=False).run(test, out=report.append)
        self.assertGreater(results.attempted, 1)
        self.assertEqual(results.failed, 0, "".join(report))

    def test_hands(self):
        self.check(HANDS, "hands")

    def test_ways(self):
        self.check(WAYS, "ways")

    def test_leads(self):
        self.check(LEADS, "leads")

    def test_papers(self):
        self.check(PAPERS, "papers")

    def test_tables(self):
        self.check(TABLES, "tables")

    def test_passes(self):
        self.check(PASSES, "passes")

    def test_changes(self):
        self.check(CHANGES, "changes")

    def test_turns(self):
        self.check(TURNS, "turns")

    def test_rounds(self):
        self.check(ROUNDS, "rounds")

    def test_orders(self):
        self.check(ORDERS, "orders")

    def test_sources(self):
        self.check(SOURCES, "sources")

    def test_edits(self):
        self.check(EDITS, "edits")

    def test_merges(self):
        self.check(MERGES, "merges")

    def test_live(self):
        self.check(LIVE, "live")

    def test_readings(self):
        self.check(READINGS, "readings")

    def test_readme(self):
        with open(README, encoding="utf-8") as file:
            self.check(file.read().replace("```", ""), "README.md")


if __name__ == "__main__":
    unittest.main()
