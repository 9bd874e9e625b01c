"""What the plain way does with a row, for each size of the hand."""

from handpiles.laying import Laying, check_hand, check_number, fronts_in, piles_in


def plain_way(row, hand):
    """Return the plain way of a row, as the list of its tuples (index, pile)."""
    laying = Laying(row, hand)
    laying.go_on()
    return laying.way


def piles_of(row, hand):
    """Return the piles of a row, each as the list of its cards as they were laid."""
    return piles_in(row, plain_way(row, hand))


def fronts(row, hand):
    """Return for each pile j of a row the number of the cards on the piles 0 to j."""
    return fronts_in(plain_way(row, hand))


def hands_met(row, hand):
    """Return for each card that is laid the indexes of the hand from which it is laid."""
    laying = Laying(row, hand)
    met = []
    while laying.held:
        met.append(list(laying.held))
        laying.lay_plainly()
    return met


def card_keys(row, hand):
    """Return for each card its key (pile, card), by which the plain way is ordered."""
    check_hand(hand)
    keys = []
    for card in row:
        if len(keys) < hand:
            keys.append((0, card))
        else:
            # The card is drawn when just this key has been laid.
            pile, last = sorted(keys)[len(keys) - hand]
            keys.append((pile, card) if card >= last else (pile + 1, card))
    return keys


def number_of_piles(row, hand):
    """Return the number of the piles of a row."""
    return len(fronts(row, hand))


def least_hand(row, most):
    """Return the least size of a hand with which a row has at most so many piles."""
    check_number(most, 1)
    size = 1
    # A hand for the whole row makes one pile, so this ends.
    while number_of_piles(row, size) > most:
        size += 1
    return size


def sizes(row):
    """Return the tuples (size, piles) of the size 1 and of each one that lessens the piles."""
    found = [(1, number_of_piles(row, 1))]
    # A greater hand than the row changes nothing any more.
    for size in range(2, len(row) + 1):
        piles = number_of_piles(row, size)
        if piles < found[-1][1]:
            found.append((size, piles))
    return found
