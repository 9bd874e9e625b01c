"""Cards taken out of a row, put in and exchanged."""

from itertools import combinations

from handpiles.hands import number_of_piles
from handpiles.laying import check_hand, check_number


def piles_without(row, hand):
    """Return for each card of a row the number of the piles without it."""
    check_hand(hand)
    return [number_of_piles(_without(row, [index]), hand) for index in range(len(row))]


def best_out(row, hand):
    """Return the index of the card without which there are the fewest piles, None for the empty row."""
    numbers = piles_without(row, hand)
    return _place_of_least(numbers) if numbers else None


def piles_with(row, hand, card):
    """Return for each place of a row the number of the piles with a card that is put in there."""
    return [number_of_piles(row[:index] + [card] + row[index:], hand) for index in range(len(row) + 1)]


def best_in(row, hand, card):
    """Return the place at which a card that is put in gives the fewest piles."""
    return _place_of_least(piles_with(row, hand, card))


def best_exchange(row, hand):
    """Return the first index whose card gives fewer piles if exchanged with the next one, or None."""
    piles = number_of_piles(row, hand)
    for index in range(len(row) - 1):
        exchanged = row[:index] + [row[index + 1], row[index]] + row[index + 2:]
        if number_of_piles(exchanged, hand) < piles:
            return index
    return None


def least_outs(row, hand, most):
    """Return the least number of cards to take out for at most so many piles."""
    return len(first_outs(row, hand, most))


def first_outs(row, hand, most):
    """Return the least list of as few indexes as may be to take out for at most so many piles."""
    check_hand(hand)
    check_number(most, 1)
    # A row without cards has no pile, so one of these numbers is enough.
    for many in range(len(row) + 1):
        # The lists of one length come ascending.
        for outs in combinations(range(len(row)), many):
            if number_of_piles(_without(row, outs), hand) <= most:
                return list(outs)


def _without(row, outs):
    """Return a row without the cards with these indexes."""
    return [card for index, card in enumerate(row) if index not in outs]


def _place_of_least(numbers):
    """Return the index of the first of the least numbers."""
    return numbers.index(min(numbers))
