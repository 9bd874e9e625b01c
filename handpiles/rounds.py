"""Rows that come over and over."""

from math import gcd

from handpiles.errors import InvalidIndex
from handpiles.hands import number_of_piles, piles_of
from handpiles.laying import Laying, check_hand, check_number

GREATEST_STEADY = 6


def piles_after(row, hand, rounds):
    """Return the number of the piles of a row that is repeated so many times."""
    check_hand(hand)
    check_number(rounds, 0)
    if not row:
        return 0
    first, every, piles, _ = _recurrence(row, hand)
    spare = _spare(row, hand, rounds, first, every)
    return number_of_piles(row * (rounds - spare * every), hand) + spare * piles


def comes_round(row, hand):
    """Return which round's state comes again first, after how many rounds and piles."""
    check_hand(hand)
    first, every, piles, _ = _recurrence(row, hand)
    return first, every, piles


def long_run(row, hand):
    """Return how many piles begin in how many rounds in the long run, in lowest terms."""
    check_hand(hand)
    if not row:
        return 0, 1
    every, piles = comes_round(row, hand)[1:]
    common = gcd(piles, every)
    return piles // common, every // common


def least_steady(row, piles, rounds):
    """Return the least size of a hand whose long run is at most a fraction, or None."""
    check_number(piles, 0)
    check_number(rounds, 1)
    for hand in range(1, GREATEST_STEADY + 1):
        top, bottom = long_run(row, hand)
        if top * rounds <= piles * bottom:
            return hand
    return None


def pile_at(row, hand, rounds, index):
    """Return the number of the cards of a pile of a repeated row, its first and its last card."""
    many = piles_after(row, hand, rounds)
    if index < 0 or index >= many:
        raise InvalidIndex(index)
    first, every, piles, before = _recurrence(row, hand)
    if piles == 0:
        # All cards are equal, and all are on the one pile.
        return rounds * len(row), row[0], row[0]
    spare = _spare(row, hand, rounds, first, every)
    if index >= before:
        # The pile stands as often as the rounds come again; the first time is not left out.
        index -= piles * min(spare, (index - before) // piles)
    pile = piles_of(row * (rounds - spare * every), hand)[index]
    return len(pile), pile[0], pile[-1]


def _recurrence(row, hand):
    """Return the tuple (first, every, piles, before) of a row repeated without an end.

    The first three are as comes_round returns them, the last one is the number of
    the piles that begin before the round that comes again.
    """
    cards = row * (hand // len(row) + 1)
    laying = Laying(cards, hand)
    met = {}
    state = _state(laying)
    while state not in met:
        met[state] = (len(met), laying.piles_begun())
        # The laying draws from these cards, and is never to see an end of them.
        cards.extend(row)
        for _ in range(len(row)):
            laying.lay_plainly()
        state = _state(laying)
    first, before = met[state]
    return first, len(met) - first, laying.piles_begun() - before, before


def _state(laying):
    """Return the card laid last and the ascending cards in the hand."""
    return laying.last, tuple(sorted([laying.row[index] for index in laying.held]))


def _spare(row, hand, rounds, first, every):
    """Return how many times the rounds that come again may be left out of a repeated row.

    What is left has still twice what comes again, so that a pile that begins in
    the first of them ends there, and the cards with which a hand meets the end.
    """
    left = first + 2 * every + (hand + len(row) - 1) // len(row)
    return max(0, (rounds - left) // every)
