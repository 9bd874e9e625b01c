"""The rules of laying, which the other files share."""

from handpiles.errors import InvalidHand, InvalidWay


def check_hand(hand):
    """Refuse the size of a hand that holds no card."""
    if hand < 1:
        raise InvalidHand(hand)


class Laying:
    """A beginning of a way, with the hand behind it."""

    def __init__(self, row, hand):
        check_hand(hand)
        self.row = row
        self.drawn = min(hand, len(row))
        # Cards are drawn in order, so these indexes always ascend.
        self.held = list(range(self.drawn))
        self.way = []
        self.last = None
        self.pile = 0

    def fits(self, index):
        """Tell if a card of the hand may be laid on the present pile."""
        return self.last is None or self.row[index] >= self.last

    def allows(self, index, pile):
        """Tell if an entry may come next, whatever its integers are."""
        if index not in self.held:
            return False
        if pile == self.pile:
            return self.fits(index)
        return self.last is not None and pile == self.pile + 1

    def lay(self, index, pile):
        """Lay a card of the hand on a pile, and draw the next card."""
        self.held.remove(index)
        self.way.append((index, pile))
        self.last = self.row[index]
        self.pile = pile
        if self.drawn < len(self.row):
            self.held.append(self.drawn)
            self.drawn += 1

    def lay_plainly(self):
        """Lay the card that the plain way lays, of a hand with cards."""
        fitting = [index for index in self.held if self.fits(index)]
        if fitting:
            self.lay(self.least(fitting), self.pile)
        else:
            self.lay(self.least(self.held), self.pile + 1)

    def least(self, indexes):
        """Return the index of the least card, of equal ones the least index."""
        return min([(self.row[index], index) for index in indexes])[1]

    def go_on(self):
        """Lay all cards that are left plainly."""
        while self.held:
            self.lay_plainly()

    def piles_begun(self):
        """Return the number of the piles that have a card."""
        return 0 if self.last is None else self.pile + 1


def followed(row, hand, told):
    """Return the laying of the told entries ahead of the first one that is not allowed."""
    laying = Laying(row, hand)
    for index, pile in told:
        if not laying.allows(index, pile):
            break
        laying.lay(index, pile)
    return laying


def begun(row, hand, told):
    """Return the laying of a told beginning; refuse what is none."""
    laying = followed(row, hand, told)
    if len(laying.way) < len(told):
        raise InvalidWay(len(laying.way))
    return laying


def fronts_in(way):
    """Return the fronts of a way or of a beginning of one."""
    found = []
    for before, (_, pile) in enumerate(way):
        if pile == len(found):
            found.append(before)
        found[pile] = before + 1
    return found
