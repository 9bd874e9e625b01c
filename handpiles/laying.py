"""The rules of laying, which the other files share."""

from handpiles.errors import InvalidHand, InvalidNumber, InvalidWay


def check_hand(hand):
    """Refuse the size of a hand that holds no card."""
    if hand < 1:
        raise InvalidHand(hand)


def check_hands(hands):
    """Refuse the first size of a hand in a list that holds no card."""
    for hand in hands:
        check_hand(hand)


def check_number(number, least):
    """Refuse a number that is less than the least one."""
    if number < least:
        raise InvalidNumber(number)


class Laying:
    """A beginning of a way, with the hand behind it."""

    def __init__(self, row, hand):
        check_hand(hand)
        self.row = row
        self.room = hand
        self.drawn = 0
        # Cards are drawn in order, so these indexes always ascend.
        self.held = []
        self.way = []
        self.last = None
        self.pile = 0
        self.draw()

    def draw(self):
        """Draw cards until the hand is full or none is left."""
        while len(self.held) < self.room and self.drawn < len(self.row):
            self.held.append(self.drawn)
            self.drawn += 1

    def rank(self, card, pile):
        """Return the number by which the cards of a pile ascend; a pile may turn it round."""
        return card

    def fits(self, index):
        """Tell if a card of the hand may be laid on the present pile."""
        if self.last is None:
            return True
        return self.rank(self.row[index], self.pile) >= self.rank(self.last, self.pile)

    def allows(self, index, pile):
        """Tell if an entry may come next, whatever its integers are."""
        if index not in self.held:
            return False
        if pile == self.pile:
            return self.fits(index)
        return self.last is not None and pile == self.pile + 1

    def lay(self, index, pile):
        """Lay a card of the hand on a pile, and draw what the hand has room for."""
        self.held.remove(index)
        self.way.append((index, pile))
        self.last = self.row[index]
        self.pile = pile
        self.draw()

    def lay_plainly(self):
        """Lay the card that the plain way lays, of a hand with cards."""
        fitting = [index for index in self.held if self.fits(index)]
        if fitting:
            self.lay(self.least(fitting, self.pile), self.pile)
        else:
            self.lay(self.least(self.held, self.pile + 1), self.pile + 1)

    def least(self, indexes, pile):
        """Return the index of the least card for a pile, of equal ones the least index."""
        return min([(self.rank(self.row[index], pile), index) for index in indexes])[1]

    def go_on(self):
        """Lay all cards that are left plainly."""
        while self.held:
            self.lay_plainly()

    def mark(self):
        """Return what go_back needs, to be used once."""
        return self.room, self.drawn, list(self.held), len(self.way), self.last, self.pile

    def go_back(self, mark):
        """Bring everything back to where it was when it was marked."""
        self.room, self.drawn, self.held, laid, self.last, self.pile = mark
        del self.way[laid:]

    def piles_begun(self):
        """Return the number of the piles that have a card."""
        return 0 if self.last is None else self.pile + 1


def followed(row, hand, told):
    """Return the laying of the told entries ahead of the first one that is not allowed."""
    laying = Laying(row, hand)
    for index, pile in told:
        if not laying.allows(index, pile):
            break
        laying.lay(index, pile)
    return laying


def begun(row, hand, told):
    """Return the laying of a told beginning; refuse what is none."""
    laying = followed(row, hand, told)
    if len(laying.way) < len(told):
        raise InvalidWay(len(laying.way))
    return laying


def fronts_in(way):
    """Return the fronts of a way or of a beginning of one."""
    found = []
    for before, (_, pile) in enumerate(way):
        if pile == len(found):
            found.append(before)
        found[pile] = before + 1
    return found


def piles_in(row, way):
    """Return the piles of a way of a row, each as the list of its cards as they were laid."""
    piles = []
    for index, pile in way:
        if pile == len(piles):
            piles.append([])
        piles[pile].append(row[index])
    return piles
