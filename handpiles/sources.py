"""Which rows give told piles, by a window for each card."""

from handpiles.errors import InvalidIndex, InvalidPiles
from handpiles.hands import piles_of
from handpiles.laying import check_hand


class Sources:
    """The rows in which the cards of told piles stand within their windows."""

    def __init__(self, told, hand):
        found = windows(told, hand)
        spans = [(card, first, last) for card, (first, last) in zip(_cards_of(told), found)]
        # What is left of these behind the front of a row stays a tuple, to be a key.
        self.spans = tuple(sorted(spans))
        self.known = {(): 1}

    def choices(self, left):
        """Return the ascending tuples (card, rest) of what may stand next and what is left then."""
        index = len(self.spans) - len(left)
        return [(card, left[:place] + left[place + 1:])
                for place, (card, first, last) in enumerate(left) if first <= index <= last]

    def ends(self, left):
        """Return the number of the orders in which all that is left can stand."""
        if left not in self.known:
            self.known[left] = sum([self.ends(rest) for _, rest in self.choices(left)])
        return self.known[left]

    def all_rows(self):
        """Return the number of the rows."""
        return self.ends(self.spans)

    def row_with(self, index):
        """Return the row with an index in the ascending list of the rows."""
        row = []
        left = self.spans
        while left:
            card, left, index = self._step(left, index)
            row.append(card)
        return row

    def _step(self, left, index):
        """Return the next card of the row with an index, what is left then, and the index among its ends."""
        # There are more ends in all than the index, so one of the cards has the row.
        for card, rest in self.choices(left):
            if index < self.ends(rest):
                return card, rest, index
            index -= self.ends(rest)

    def index_with(self, row):
        """Return the index of a row in the ascending list of the rows, None if it is not there."""
        index = 0
        left = self.spans
        for card in row:
            rests = dict(self.choices(left))
            if card not in rests:
                return None
            index += sum([self.ends(rest) for other, rest in rests.items() if other < card])
            left = rests[card]
        return None if left else index


def windows(told, hand):
    """Return for each told card the tuple of the least and the greatest index at which it may stand."""
    _check_piles(told)
    check_hand(hand)
    cards = _cards_of(told)
    begins = [index == 0 for pile in told for index in range(len(pile))]
    found = []
    for place, card in enumerate(cards):
        first = 0
        for before in range(place):
            if _goes_first(cards, begins, before, card):
                # It is drawn only when that card has been laid.
                first = hand + before
        found.append((first, min(len(cards) - 1, hand + place - 1)))
    return found


def count_rows(told, hand):
    """Return the number of the rows that have just these piles."""
    return Sources(told, hand).all_rows()


def first_row(told, hand):
    """Return the least row that has just these piles, None if there is none."""
    sources = Sources(told, hand)
    return sources.row_with(0) if sources.all_rows() else None


def rows_for(told, hand):
    """Return the ascending list of the rows that have just these piles."""
    sources = Sources(told, hand)
    return [sources.row_with(index) for index in range(sources.all_rows())]


def row_at(told, hand, index):
    """Return the row with an index in the list that rows_for returns."""
    sources = Sources(told, hand)
    if index < 0 or index >= sources.all_rows():
        raise InvalidIndex(index)
    return sources.row_with(index)


def index_of(told, hand, row):
    """Return the index of a row in the list that rows_for returns, None if it is not there."""
    return Sources(told, hand).index_with(row)


def places(told, hand):
    """Return for each told card the ascending indexes at which it stands in some of the rows."""
    found = windows(told, hand)
    return [[index for index in range(first, last + 1)
             if _can_stand(found[:place] + [(index, index)] + found[place + 1:])]
            for place, (first, last) in enumerate(found)]


def greatest_source_hand(told):
    """Return the greatest size of a hand, at most the number of cards, with which some row has these piles."""
    _check_piles(told)
    size = 0
    # A size with which there is such a row has none greater behind one without.
    while size < len(_cards_of(told)) and _can_stand(windows(told, size + 1)):
        size += 1
    return size


def sizes_for(row, told):
    """Return the least and the greatest size of a hand with which a row has told piles, or None."""
    _check_piles(told)
    found = [size for size in range(1, len(row) + 1) if piles_of(row, size) == told]
    return (found[0], found[-1]) if found else None


def _check_piles(told):
    """Refuse the first pile that is empty, does not ascend, or would have gone on with the one before it."""
    for index, pile in enumerate(told):
        if not pile or pile != sorted(pile):
            raise InvalidPiles(index)
        if index > 0 and pile[0] > told[index - 1][-1]:
            raise InvalidPiles(index)


def _cards_of(told):
    """Return the cards of told piles, one pile behind the other."""
    return [card for pile in told for card in pile]


def _goes_first(cards, begins, before, card):
    """Tell if a card in the hand would have been laid instead of the told one before it."""
    there = cards[before]
    if before == 0:
        return card < there
    # A pile begins only if no card of the hand fits; on one that goes on the card has to fit.
    if begins[before]:
        return card < there or card >= cards[before - 1]
    return cards[before - 1] <= card < there


def _can_stand(spans):
    """Tell if cards can stand in a row, each at an index from its first to its last one."""
    waiting = list(spans)
    for index in range(len(spans)):
        # Of those that may stand here, the one that can wait least goes first.
        lasts = [(last, first) for first, last in waiting if first <= index]
        if not lasts or min(lasts)[0] < index:
            return False
        last, first = min(lasts)
        waiting.remove((first, last))
    return True
