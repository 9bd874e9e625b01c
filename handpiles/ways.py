"""Other ways of laying: which are allowed, where they fall behind, how many there are."""

from handpiles.errors import InvalidWay
from handpiles.hands import fronts
from handpiles.laying import begun, check_hand, followed, fronts_in


def first_fault(row, hand, told):
    """Return the number of entries ahead of the first fault or lack, None for a way."""
    laying = followed(row, hand, told)
    if len(laying.way) < len(told) or laying.held:
        return len(laying.way)
    return None


def is_beginning(row, hand, told):
    """Tell if a list of entries is a beginning of a way."""
    return len(followed(row, hand, told).way) == len(told)


def fronts_of(row, hand, told):
    """Return for each pile j of a beginning the number of the cards on the piles 0 to j."""
    return fronts_in(begun(row, hand, told).way)


def first_behind(row, hand, told):
    """Return the first pile up to which a way has fewer cards than the plain way, or None."""
    laying = begun(row, hand, told)
    if laying.held:
        raise InvalidWay(len(told))
    # No way has fewer piles than the plain one, so none of its fronts is left out.
    for pile, (front, plain) in enumerate(zip(fronts_in(laying.way), fronts(row, hand))):
        if front < plain:
            return pile
    return None


def going_on(row, hand, told):
    """Return the way that begins as told and goes on plainly."""
    laying = begun(row, hand, told)
    laying.go_on()
    return laying.way


def count_ways(row, hand):
    """Return for each number of piles the number of the ways that make so many."""
    check_hand(hand)
    drawn = min(hand, len(row))
    groups = {(tuple(range(drawn)), None): [1] + [0] * len(row)}
    for _ in row:
        coming = (drawn,) if drawn < len(row) else ()
        groups = _one_more_laid(row, groups, coming)
        drawn += len(coming)
    totals = [0] * (len(row) + 1)
    for counts in groups.values():
        _add_to(totals, counts)
    return totals


def _one_more_laid(row, groups, coming):
    """Return the counts by number of piles behind one more card.

    Beginnings that hold the same cards and laid the same card last go on alike,
    so they are counted as one group.
    """
    found = {}
    for (held, last), counts in groups.items():
        for place, index in enumerate(held):
            rest = held[:place] + held[place + 1:] + coming
            totals = found.setdefault((rest, index), [0] * len(counts))
            _add_to(totals, [0] + counts[:-1])
            if last is not None and row[index] >= row[last]:
                _add_to(totals, counts)
    return found


def _add_to(totals, counts):
    """Add counts to totals, number by number."""
    for piles, count in enumerate(counts):
        totals[piles] += count
