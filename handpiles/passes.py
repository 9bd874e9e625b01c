"""What one pass or several passes through hands make of a row."""

from handpiles.hands import plain_way
from handpiles.laying import check_hands


def pass_once(row, hand):
    """Return the cards of a row in the order in which they are laid plainly."""
    return [row[index] for index, _ in plain_way(row, hand)]


def at_rest(row, hand):
    """Tell if a pass leaves a row as it is."""
    return pass_once(row, hand) == row


def greatest_rest(row):
    """Return the greatest size of a hand, at most the number of cards, that leaves a row as it is."""
    # A row that one size changes is changed by each greater one, too.
    size = 0
    while size < len(row) and at_rest(row, size + 1):
        size += 1
    return size


def chained(row, hands):
    """Return the row behind one pass with each size, in their order."""
    check_hands(hands)
    cards = list(row)
    for hand in hands:
        cards = pass_once(cards, hand)
    return cards


def needed(hands):
    """Return the sizes without those that change nothing in any chain."""
    check_hands(hands)
    found = []
    for hand in hands:
        # What is found ascends, so its last size is the greatest so far.
        if not found or hand > found[-1]:
            found.append(hand)
    return found


def one_instead(hands):
    """Return the size of the one hand that does at least as much as a chain."""
    check_hands(hands)
    return sum([hand - 1 for hand in hands]) + 1
