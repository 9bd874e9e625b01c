"""Live tables, whose deeds can be taken back."""

from handpiles.errors import HandFull, NothingToUndo, NotFitting
from handpiles.laying import Laying, check_hand, piles_in


class Table:
    """A live table, on which a full hand lays a card plainly before it draws one."""

    def __init__(self, hand):
        # The row is of the cards that were given; the hand draws each of them at once.
        self._laying = Laying([], hand)
        self._marks = []

    def __call__(self, card):
        """Give the table a card; return the tuple (card, pile) that is laid for it, or None."""
        self._begin_deed()
        many = len(self)
        if self._is_full():
            self._laying.lay_plainly()
        self._draw(card)
        return self.laid()[many] if len(self) > many else None

    def finish(self):
        """Lay all cards of the hand plainly; return their tuples (card, pile)."""
        self._begin_deed()
        many = len(self)
        self._laying.go_on()
        return self.laid()[many:]

    def resize(self, size):
        """Change the size of the hand, lay what it cannot hold, and return the tuples (card, pile)."""
        check_hand(size)
        self._begin_deed()
        many = len(self)
        laying = self._laying
        laying.room = size
        while len(laying.held) > size:
            laying.lay_plainly()
        return self.laid()[many:]

    def hand(self):
        """Return the ascending list of the cards in the hand."""
        laying = self._laying
        return sorted([laying.row[index] for index in laying.held])

    def laid(self):
        """Return the tuples (card, pile) of all laid cards in order."""
        laying = self._laying
        return [(laying.row[index], pile) for index, pile in laying.way]

    def piles(self):
        """Return the piles, each as the list of its cards."""
        return piles_in(self._laying.row, self._laying.way)

    @property
    def size(self):
        """The present size of the hand."""
        return self._laying.room

    def undo(self):
        """Take back the last deed."""
        if not self._marks:
            raise NothingToUndo(0)
        laying = self._laying
        laying.go_back(self._marks.pop())
        del laying.row[laying.drawn:]

    def __len__(self):
        return len(self._laying.way)

    def __eq__(self, other):
        # A free table is a table, too, but equals free tables alone.
        if not isinstance(other, Table) or isinstance(other, FreeTable):
            return False
        return self._looks_like(other)

    def _looks_like(self, other):
        """Tell if two tables have the same size, cards laid and hand."""
        return self.size == other.size and self.laid() == other.laid() and self.hand() == other.hand()

    def _begin_deed(self):
        """Remember how everything is before a deed."""
        self._marks.append(self._laying.mark())

    def _is_full(self):
        """Tell if the hand has no room for another card."""
        return len(self._laying.held) >= self._laying.room

    def _draw(self, card):
        """Draw a card for which the hand has room."""
        self._laying.row.append(card)
        self._laying.draw()


class FreeTable(Table):
    """A live table, on which the caller says which card is laid where."""

    def __call__(self, card):
        """Draw a card alone."""
        if self._is_full():
            raise HandFull(card)
        self._begin_deed()
        self._draw(card)

    def lay(self, card, begins):
        """Lay a card of the hand on the present pile, or on the next one; return its number."""
        laying = self._laying
        pile = laying.pile
        # The first card begins pile 0 in any case.
        if begins and laying.last is not None:
            pile += 1
        indexes = [index for index in laying.held if laying.row[index] == card]
        if not indexes or not laying.allows(indexes[0], pile):
            raise NotFitting(card)
        self._begin_deed()
        laying.lay(indexes[0], pile)
        return pile

    def finish(self):
        """Lay all cards of the hand plainly, as a Table does."""
        return super().finish()

    def resize(self, size):
        """Change the size of the hand, as a Table does."""
        return super().resize(size)

    def __eq__(self, other):
        return isinstance(other, FreeTable) and self._looks_like(other)
