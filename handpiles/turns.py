"""Piles that ascend or descend, as a list tells."""

from handpiles.laying import Laying, piles_in


class TurnedLaying(Laying):
    """A laying in which told piles descend."""

    def __init__(self, row, hand, downs):
        self.downs = downs
        Laying.__init__(self, row, hand)

    def rank(self, card, pile):
        """Return the card, or on a pile that descends its negative, which ascends there."""
        if pile < len(self.downs) and self.downs[pile]:
            return -card
        return card


def piles_turned(row, hand, downs):
    """Return the piles of a row if the told ones descend."""
    return piles_in(row, _laid_whole(row, hand, downs).way)


def least_turned(row, hand):
    """Return the least number of piles, and the least list that gives it."""
    lists = [[]]
    # There are not more piles than cards, so one of these numbers is enough.
    for number in range(len(row) + 1):
        for downs in lists:
            if _laid_whole(row, hand, downs).piles_begun() <= number:
                return number, downs
        lists = [told + [down] for told in lists for down in (False, True)]


def by_turns(row, hand):
    """Return the piles of a row if each other one descends, from pile 1 on."""
    return piles_turned(row, hand, [pile % 2 == 1 for pile in range(len(row))])


def _laid_whole(row, hand, downs):
    """Return the laying of a whole row with told directions."""
    laying = TurnedLaying(row, hand, downs)
    laying.go_on()
    return laying
