"""The orders of so many different cards, and the lengths of their piles."""

from itertools import permutations
from math import gcd

from handpiles.hands import number_of_piles, piles_of
from handpiles.laying import check_hand, check_number


def counts(number, hand):
    """Return for each number of piles the number of the orders with so many."""
    _check(number, hand)
    found = [0] * (number + 1)
    for order in permutations(range(number)):
        found[number_of_piles(order, hand)] += 1
    return found


def mean(number, hand):
    """Return the mean number of piles of all orders as a tuple (top, bottom) in lowest terms."""
    found = counts(number, hand)
    top = sum([piles * orders for piles, orders in enumerate(found)])
    bottom = sum(found)
    common = gcd(top, bottom)
    return top // common, bottom // common


def first_order(number, hand, many):
    """Return the least order with so many piles, None if there is none."""
    _check(number, hand)
    # The orders come ascending.
    for order in permutations(range(number)):
        if number_of_piles(order, hand) == many:
            return list(order)
    return None


def lengths_counted(number, hand):
    """Return the ascending tuples (lengths, orders) of the lengths of piles that come about."""
    _check(number, hand)
    found = {}
    for order in permutations(range(number)):
        lengths = tuple([len(pile) for pile in piles_of(order, hand)])
        found[lengths] = found.get(lengths, 0) + 1
    return [(list(lengths), found[lengths]) for lengths in sorted(found)]


def are_lengths(lengths, hand):
    """Tell if a list of integers is that of the lengths of the piles of some row."""
    check_hand(hand)
    return all([length >= 1 for length in lengths]) and all([length >= hand for length in lengths[:-1]])


def row_of_lengths(lengths, hand):
    """Return the row of ascending blocks with these lengths, each a pile, None if there is no row."""
    if not are_lengths(lengths, hand):
        return None
    row = []
    top = sum(lengths)
    for length in lengths:
        # Each block has lesser cards than those before it.
        row.extend(list(range(top - length, top)))
        top -= length
    return row


def _check(number, hand):
    """Refuse a number of cards below 0, and then a hand that holds no card."""
    check_number(number, 0)
    check_hand(hand)
