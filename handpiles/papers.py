"""Papers, which show card by card that no way lays any card on a lesser pile."""

from handpiles.hands import card_keys
from handpiles.laying import check_hand


def paper(row, hand):
    """Return a paper that holds and tells for each card the pile of the plain way."""
    keys = card_keys(row, hand)
    return [(pile, _backing(keys, hand, index)) for index, (pile, _) in enumerate(keys)]


def first_gap(row, hand, told):
    """Return the index of the first entry that does not hold or lacks, None for a paper that holds."""
    check_hand(hand)
    for index in range(min(len(row), len(told))):
        if not _holds(row, hand, told, index):
            return index
    if len(told) != len(row):
        return len(told)
    return None


def shown(row, hand, told):
    """Return the number of piles that a paper shows, None if it does not hold."""
    if first_gap(row, hand, told) is not None:
        return None
    return max([pile + 1 for pile, _ in told], default=0)


def _backing(keys, hand, index):
    """Return the indexes of the cards that keep a card from each lesser pile."""
    if keys[index][0] == 0:
        return []
    # The key of a card follows from the greatest keys before it, as many as the hand holds.
    ordered = sorted([(keys[before], before) for before in range(index)])
    return sorted([before for _, before in ordered[index - hand:]])


def _holds(row, hand, told, index):
    """Tell if the entry of a card holds."""
    pile, backing = told[index]
    if pile < 1:
        return pile == 0 and len(backing) == 0
    if len(backing) != hand:
        return False
    least = 0
    for before in backing:
        # Each is greater than the one before it, so none of them comes twice.
        if before < least or before >= index:
            return False
        if not _backs(row, told, before, index):
            return False
        least = before + 1
    return True


def _backs(row, told, before, index):
    """Tell if an earlier card helps to keep a card from the piles before its own."""
    pile = told[index][0]
    earlier = told[before][0]
    return earlier >= pile or (earlier == pile - 1 and row[before] > row[index])
