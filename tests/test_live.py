"""handpiles.live against a table that is worked out anew: promises [2], [3], [4] and [5]."""

import ast
import os
import random
import unittest

from handpiles.errors import HandFull, InvalidHand, NothingToUndo, NotFitting
from handpiles.live import FreeTable, Table
from tests.reference import GREAT, lists_inside, plain_card

KINDS = [Table, FreeTable]
ROW = [5, 2, 8, 1, 9, 3]
VALUES = [(3, 20), (40, 6), (1, 9), (7, 60)]  # greatest sizes of a hand and different cards


class Told:
    """What a table is to tell, with all that it was before each deed."""

    def __init__(self, size):
        self.size = size
        self.held = []
        self.laid = []
        self.before = []

    def piles(self):
        found = []
        for card, pile in self.laid:
            if pile == len(found):
                found.append([])
            found[pile].append(card)
        return found

    def begin(self):
        self.before.append((self.size, list(self.held), list(self.laid)))

    def undo(self):
        self.size, self.held, self.laid = self.before.pop()

    def lay(self, card, begins):
        pile = self.laid[-1][1] + begins if self.laid else 0
        self.held.remove(card)
        self.laid.append((card, pile))
        return self.laid[-1]

    def lay_plainly(self):
        card = plain_card(self.held, self.piles(), [])
        if card is None:
            return self.lay(min(self.held), True)
        return self.lay(card, False)

    def lay_down_to(self, many):
        laid = []
        while len(self.held) > many:
            laid.append(self.lay_plainly())
        return laid

    def fits(self, card, begins):
        return card in self.held and (begins or not self.laid or card >= self.laid[-1][0])

    def give(self, card, free):
        laid = None
        if not free and len(self.held) >= self.size:
            laid = self.lay_plainly()
        self.held.append(card)
        return laid


class Drawn:
    """A table and what it is to tell, led through drawn deeds side by side."""

    def __init__(self, case, kind, seed):
        self.case = case
        self.draw = random.Random(seed)
        self.greatest, self.cards = VALUES[seed % len(VALUES)]
        size = self.draw.randint(1, self.greatest)
        self.free = kind is FreeTable
        self.table = kind(size)
        self.told = Told(size)
        self.met = set()

    def run(self, most):
        """Do at most so many deeds, and take back as many at the most."""
        taken_back = 0
        while len(self.told.before) + taken_back < most:
            name = self.draw.choices(["give", "lay", "finish", "resize", "undo", "wrong"], [14, 8, 2, 3, 4, 2])[0]
            if name == "undo" and self.told.before:
                taken_back += 1
            getattr(self, name)()
            self.compare()

    def compare(self):
        case, table, told = self.case, self.table, self.told
        case.assertEqual(table.laid(), told.laid)
        case.assertEqual(table.piles(), told.piles())
        case.assertEqual(table.hand(), sorted(told.held))
        case.assertEqual(table.size, told.size)
        case.assertEqual(len(table), len(told.laid))

    def refused(self, error, value, ask):
        with self.case.assertRaises(error) as caught:
            ask()
        self.case.assertIs(type(caught.exception), error)
        self.case.assertEqual(caught.exception.value, value)
        self.met.add(error.__name__)

    def give(self):
        card = self.draw.randrange(self.cards) - self.cards // 2
        if self.free and len(self.told.held) >= self.told.size:
            self.refused(HandFull, card, lambda: self.table(card))
            return
        self.told.begin()
        self.case.assertEqual(self.table(card), self.told.give(card, self.free))

    def lay(self):
        if not self.free:
            return
        card = self.draw.choice(self.told.held + [self.cards])
        begins = self.draw.choice([True, False, False])
        if not self.told.fits(card, begins):
            self.refused(NotFitting, card, lambda: self.table.lay(card, begins))
            return
        self.told.begin()
        self.case.assertEqual(self.table.lay(card, begins), self.told.lay(card, begins)[1])
        self.met.add("lay")

    def finish(self):
        self.told.begin()
        self.case.assertEqual(self.table.finish(), self.told.lay_down_to(0))
        self.met.add("finish")

    def resize(self):
        self.told.begin()
        self.told.size = self.draw.randint(1, self.greatest)
        wanted = self.told.lay_down_to(self.told.size)
        self.case.assertEqual(self.table.resize(self.told.size), wanted)
        self.met.add("resize and lay" if wanted else "resize")

    def undo(self):
        if not self.told.before:
            self.refused(NothingToUndo, 0, self.table.undo)
            return
        self.told.undo()
        self.case.assertIs(self.table.undo(), None)
        self.met.add("undo")

    def wrong(self):
        size = self.draw.choice([0, -1, -GREAT])
        self.refused(InvalidHand, size, lambda: self.table.resize(size))


class DrawnDeeds(unittest.TestCase):

    def check(self, kind):
        met = set()
        for seed in range(120):
            drawn = Drawn(self, kind, seed)
            drawn.run(100)
            while drawn.told.before:
                drawn.undo()
                drawn.compare()
            drawn.undo()
            drawn.compare()
            self.assertEqual(drawn.told.laid + drawn.told.held, [])
            met |= drawn.met
        return met

    def test_tables(self):
        wanted = {"finish", "resize", "resize and lay", "undo", "NothingToUndo", "InvalidHand"}
        self.assertEqual(self.check(Table), wanted)

    def test_free_tables(self):
        wanted = {"finish", "resize", "resize and lay", "undo", "NothingToUndo", "InvalidHand"}
        self.assertEqual(self.check(FreeTable), wanted | {"lay", "HandFull", "NotFitting"})


class Deeds(unittest.TestCase):

    def test_a_new_table(self):
        for kind in KINDS:
            for hand in (1, 2, 40, GREAT):
                table = kind(hand)
                self.assertEqual([table.hand(), table.laid(), table.piles(), table.size, len(table)],
                                 [[], [], [], hand, 0])
                self.assertEqual(kind(hand=hand).size, hand)

    def test_a_table_without_laid_cards_has_the_length_zero(self):
        table = Table(2)
        table(4)
        self.assertEqual(len(table), 0)
        table.finish()
        self.assertEqual(len(table), 1)

    def test_equal_cards(self):
        table = Table(3)
        self.assertEqual([table(4), table(4), table(4), table(4)], [None, None, None, (4, 0)])
        self.assertEqual(table.hand(), [4, 4, 4])
        self.assertEqual(table.finish(), [(4, 0), (4, 0), (4, 0)])
        free = FreeTable(3)
        free(4)
        free(4)
        self.assertEqual([free.lay(4, False), free.hand(), free.lay(4, True), free.hand()], [0, [4], 1, []])

    def test_cards_behind_a_finish_go_on_where_it_ended(self):
        table = Table(2)
        for card in (3, 1):
            table(card)
        self.assertEqual(table.finish(), [(1, 0), (3, 0)])
        self.assertEqual([table(4), table(2)], [None, None])
        self.assertEqual(table(5), (4, 0))
        self.assertEqual(table.finish(), [(5, 0), (2, 1)])
        self.assertEqual(table.piles(), [[1, 3, 4, 5], [2]])

    def test_deeds_that_lay_nothing_are_taken_back_one_by_one(self):
        for kind in KINDS:
            table = kind(2)
            self.assertEqual([table.finish(), table.resize(2), table.resize(5), table.finish()], [[], [], [], []])
            self.assertEqual(table.size, 5)
            self.assertIs(table.undo(), None)
            self.assertEqual(table.size, 5)
            table.undo()
            self.assertEqual(table.size, 2)
            table.undo()
            table.undo()
            with self.assertRaises(NothingToUndo) as caught:
                table.undo()
            self.assertEqual(caught.exception.value, 0)
            self.assertEqual(table.size, 2)

    def test_resize(self):
        for kind in KINDS:
            table = kind(4)
            for card in (7, 3, 9, 5):
                table(card)
            self.assertEqual(table.resize(size=2), [(3, 0), (5, 0)])
            self.assertEqual([table.hand(), table.size], [[7, 9], 2])
            self.assertEqual(table.resize(2), [])
            self.assertEqual(table.resize(1), [(7, 0)])
            self.assertEqual(table.resize(40), [])
            self.assertIs(table(8), None)
            self.assertEqual(table.hand(), [8, 9])
            for _ in range(5):
                table.undo()
            self.assertEqual([table.hand(), table.size, len(table)], [[3, 5, 7, 9], 4, 0])

    def test_a_full_table_lays_before_it_draws(self):
        table = Table(1)
        self.assertEqual([table(card) for card in (5, 1, 2, 9)], [None, (5, 0), (1, 1), (2, 1)])
        self.assertEqual(table.finish(), [(9, 1)])
        # The given card is less, but it is not in the hand yet.
        table = Table(2)
        self.assertEqual([table(card) for card in (5, 6, 1)], [None, None, (5, 0)])

    def test_kinds_of_values(self):
        table = Table(1)
        self.assertIs(table(3), None)
        self.assertIsInstance(table(2), tuple)
        self.assertTrue(all(isinstance(entry, tuple) for entry in table.finish() + table.laid()))
        free = FreeTable(2)
        self.assertIs(free(3), None)
        self.assertIs(type(free.lay(3, True)), int)
        self.assertIs(type(free.size), int)

    def test_arguments_by_name(self):
        table = Table(hand=1)
        self.assertEqual([table(card=3), table(card=2), table.resize(size=2)], [None, (3, 0), []])
        free = FreeTable(hand=2)
        free(card=3)
        free(card=5)
        self.assertEqual([free.lay(card=3, begins=False), free.lay(begins=True, card=5)], [0, 1])

    def test_wide_cards(self):
        for kind in KINDS:
            table = kind(3)
            for card in (GREAT, -GREAT, 0):
                table(card)
            self.assertEqual(table.finish(), [(-GREAT, 0), (0, 0), (GREAT, 0)])


class Free(unittest.TestCase):

    def test_the_first_card_is_laid_on_pile_zero_in_any_case(self):
        for begins in (True, False):
            free = FreeTable(2)
            free(5)
            free(2)
            self.assertEqual(free.lay(2, begins), 0)
            self.assertEqual(free.lay(5, begins), int(begins))
            free.undo()
            free.undo()
            # Behind an undo the first card is the first one again.
            self.assertEqual(free.lay(5, True), 0)

    def test_only_greater_and_equal_cards_fit(self):
        free = FreeTable(3)
        for card in (5, 4, 5):
            free(card)
        self.assertEqual(free.lay(5, False), 0)
        self.refused(NotFitting, 4, lambda: free.lay(4, False), free)
        self.assertEqual(free.lay(5, False), 0)
        self.assertEqual(free.lay(4, True), 1)
        self.refused(NotFitting, 4, lambda: free.lay(4, True), free)
        self.assertEqual(free.piles(), [[5, 5], [4]])

    def refused(self, error, value, ask, table):
        kept = [table.hand(), table.laid(), table.piles(), table.size, len(table)]
        with self.assertRaises(ValueError) as caught:
            ask()
        self.assertIs(type(caught.exception), error)
        self.assertEqual(caught.exception.value, value)
        self.assertEqual([table.hand(), table.laid(), table.piles(), table.size, len(table)], kept)

    def test_what_is_refused_is_no_deed(self):
        free = FreeTable(2)
        for card in (1, 5):
            free(card)
        free.lay(5, False)
        free(2)
        self.refused(HandFull, 9, lambda: free(9), free)
        self.refused(NotFitting, 9, lambda: free.lay(9, False), free)
        self.refused(NotFitting, 9, lambda: free.lay(9, True), free)
        self.refused(NotFitting, 1, lambda: free.lay(1, False), free)
        # A card that was laid is not in the hand any more.
        self.refused(NotFitting, 5, lambda: free.lay(5, True), free)
        self.refused(InvalidHand, 0, lambda: free.resize(0), free)
        free.undo()
        self.assertEqual([free.hand(), free.laid()], [[1], [(5, 0)]])
        free.undo()
        self.assertEqual([free.hand(), free.laid()], [[1, 5], []])
        free.undo()
        free.undo()
        self.refused(NothingToUndo, 0, free.undo, free)

    def test_a_full_hand_has_room_when_it_is_greater_or_a_card_is_laid(self):
        free = FreeTable(1)
        free(4)
        self.refused(HandFull, 4, lambda: free(4), free)
        free.resize(2)
        self.assertIs(free(4), None)
        self.refused(HandFull, 4, lambda: free(4), free)
        free.lay(4, False)
        self.assertIs(free(1), None)
        self.assertEqual(free.finish(), [(4, 0), (1, 1)])

    def test_finish_goes_on_from_what_was_laid(self):
        free = FreeTable(4)
        for card in (3, 6, 1, 8):
            free(card)
        free.lay(3, False)
        free.lay(8, True)
        self.assertEqual(free.finish(), [(1, 2), (6, 2)])
        self.assertEqual(free.piles(), [[3], [8], [1, 6]])

    def test_sizes_that_are_no_hand(self):
        for kind in KINDS:
            for hand in (0, -1, -GREAT):
                with self.assertRaises(InvalidHand) as caught:
                    kind(hand)
                self.assertEqual(caught.exception.value, hand)
                table = kind(2)
                table(3)
                self.refused(InvalidHand, hand, lambda: table.resize(hand), table)
                self.refused(InvalidHand, hand, lambda: table.resize(size=hand), table)
                table.undo()
                self.refused(NothingToUndo, 0, table.undo, table)


class Equal(unittest.TestCase):

    def filled(self, kind, hand, cards):
        table = kind(hand)
        for card in cards:
            table(card)
        return table

    def same(self, one, other):
        self.assertIs(one == other, True)
        self.assertIs(other == one, True)
        self.assertIs(one != other, False)

    def unlike(self, one, other):
        self.assertIs(one == other, False)
        self.assertIs(other == one, False)
        self.assertIs(one != other, True)
        self.assertIs(other != one, True)

    def test_of_one_kind(self):
        for kind in KINDS:
            one = self.filled(kind, 3, [3, 1])
            self.same(one, one)
            self.same(one, self.filled(kind, 3, [3, 1]))
            # The hand is told ascending, in whichever order its cards came.
            self.same(one, self.filled(kind, 3, [1, 3]))
            self.unlike(one, self.filled(kind, 2, [3, 1]))
            self.unlike(one, self.filled(kind, 3, [3, 2]))
            self.unlike(one, self.filled(kind, 3, [3]))
            self.unlike(one, self.filled(kind, 3, [3, 1, 1]))
            self.unlike(one, kind(3))
            self.same(kind(3), kind(3))

    def test_what_was_laid_counts_and_how_it_came_does_not(self):
        for kind in KINDS:
            one = self.filled(kind, 3, [3, 1])
            one.finish()
            other = self.filled(kind, 3, [1, 3])
            self.unlike(one, other)
            other.finish()
            self.same(one, other)
            other.resize(5)
            self.unlike(one, other)
            other.undo()
            self.same(one, other)
            other.finish()
            self.same(one, other)

    def test_the_piles_count(self):
        one = self.filled(FreeTable, 2, [1, 2])
        other = self.filled(FreeTable, 2, [1, 2])
        one.lay(1, False)
        other.lay(1, False)
        self.same(one, other)
        one.lay(2, False)
        other.lay(2, True)
        self.unlike(one, other)

    def test_of_both_kinds(self):
        for hand, cards in ((2, []), (3, [3, 1])):
            self.unlike(self.filled(Table, hand, cards), self.filled(FreeTable, hand, cards))

    def test_of_kinds_below(self):
        class Other(Table):
            pass

        class OtherFree(FreeTable):
            pass

        for hand, cards in ((2, []), (3, [3, 1])):
            self.same(self.filled(Other, hand, cards), self.filled(Table, hand, cards))
            self.same(self.filled(OtherFree, hand, cards), self.filled(FreeTable, hand, cards))
            self.unlike(self.filled(Other, hand, cards), self.filled(FreeTable, hand, cards))
            self.unlike(self.filled(Other, hand, cards), self.filled(OtherFree, hand, cards))

    def test_of_other_values(self):
        class Any:
            def __eq__(self, other):
                return True

        for kind in KINDS:
            table = self.filled(kind, 3, [3, 1])
            for other in (None, 0, 3, True, "", "table", [], [1, 3], (), {}, object(), kind, (3, [], [1, 3])):
                self.unlike(table, other)
            self.assertIs(table == Any(), False)

    def test_classes(self):
        self.assertTrue(issubclass(FreeTable, Table))
        self.assertIsNot(Table.__eq__, FreeTable.__eq__)
        self.assertIsInstance(FreeTable(1), Table)


class Lists(unittest.TestCase):

    def test_told_lists_are_new_ones(self):
        for kind in KINDS:
            table = kind(6)
            for card in ROW:
                table(card)
            table.resize(2)
            wanted = [table.hand(), table.laid(), table.piles()]
            told = [table.hand(), table.laid(), table.piles(), table.hand(), table.laid(), table.piles()]
            inside = lists_inside(told)
            self.assertEqual(len({id(one) for one in inside}), len(inside))
            for one in inside:
                one.append("changed")
                one.reverse()
            self.assertEqual([table.hand(), table.laid(), table.piles()], wanted)
            table.finish().clear()
            self.assertEqual(len(table), 6)
            table.undo()
            self.assertEqual([table.hand(), table.laid(), table.piles()], wanted)
            table.resize(1).clear()
            self.assertEqual(len(table), 5)

    def test_told_lists_stay_as_they_were_told(self):
        for kind in KINDS:
            table = kind(3)
            for card in (4, 2, 9):
                table(card)
            told = [table.hand(), table.laid(), table.piles(), table.resize(2), table.laid(), table.finish()]
            table.undo()
            table.undo()
            self.assertEqual(told, [[2, 4, 9], [], [], [(2, 0)], [(2, 0)], [(4, 0), (9, 0)]])

    def test_two_tables_share_nothing(self):
        for kind in KINDS:
            one, other = kind(2), kind(2)
            one(3)
            one.finish()
            self.assertEqual([other.hand(), other.laid(), len(other)], [[], [], 0])
            with self.assertRaises(NothingToUndo):
                other.undo()


class Interface(unittest.TestCase):

    def test_methods_stand_in_the_classes_themselves(self):
        path = os.path.join(os.path.dirname(os.path.dirname(os.path.abspath(__file__))), "handpiles", "live.py")
        with open(path, encoding="utf-8") as file:
            classes = {node.name: node for node in ast.parse(file.read()).body if isinstance(node, ast.ClassDef)}
        wanted = {
            "Table": {"__init__": ["hand"], "__call__": ["card"], "finish": [], "resize": ["size"], "hand": [],
                      "laid": [], "piles": [], "size": [], "undo": [], "__len__": [], "__eq__": ["other"]},
            "FreeTable": {"__call__": ["card"], "lay": ["card", "begins"], "finish": [], "resize": ["size"],
                          "__eq__": ["other"]},
        }
        for name, methods in wanted.items():
            found = {node.name: node for node in classes[name].body if isinstance(node, ast.FunctionDef)}
            for method, parameters in methods.items():
                self.assertEqual([argument.arg for argument in found[method].args.args], ["self"] + parameters)
        self.assertIsInstance(Table.size, property)
        self.assertFalse(hasattr(Table(1), "lay"))


if __name__ == "__main__":
    unittest.main()
