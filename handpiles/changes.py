"""Hands that change their size while a row is laid."""

from handpiles.errors import InvalidHand, InvalidNumber
from handpiles.laying import Laying, check_hand, check_hands, check_number, piles_in


def piles_by(row, sizes):
    """Return the piles of a row, laid plainly with a hand of changing sizes."""
    _check_sizes(sizes)
    return piles_in(row, _laid_by(row, sizes)[0].way)


def drawn_by(row, sizes):
    """Return for each laid card how many cards were drawn when it was laid."""
    _check_sizes(sizes)
    return _laid_by(row, sizes)[1]


def latest_change(row, small, great, most):
    """Return the greatest number of cards after which a greater hand is soon enough, or None."""
    check_hand(small)
    # A size that holds no card is less than the small one, too.
    if great < small:
        raise InvalidHand(great)
    check_number(most, 1)
    for many in reversed(range(len(row) + 1)):
        laying, _ = _laid_by(row, [small] * many + [great])
        if laying.piles_begun() <= most:
            return many
    return None


def is_never_less(row, one, other):
    """Tell if a list of sizes never has drawn fewer cards than another one."""
    return all([mine >= theirs for mine, theirs in zip(drawn_by(row, one), drawn_by(row, other))])


def _check_sizes(sizes):
    """Refuse an empty list of sizes, and sizes that hold no card."""
    if not sizes:
        raise InvalidNumber(0)
    check_hands(sizes)


def _laid_by(row, sizes):
    """Return the whole laying of a row, and how many cards each laid card saw drawn."""
    laying = Laying(row, sizes[0])
    drawn = []
    while laying.held:
        drawn.append(laying.drawn)
        # What is drawn behind this card is drawn for the next one, with the next size.
        laying.room = sizes[min(len(drawn), len(sizes) - 1)]
        laying.lay_plainly()
    return laying, drawn
