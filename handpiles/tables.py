"""Tables, which show pile by pile that no way has more cards of a value by then."""

from handpiles.hands import plain_way
from handpiles.laying import check_hand


def values_of(row):
    """Return the different cards of a row, ascending."""
    return sorted(set(row))


def laid_table(row, hand):
    """Return for each pile j of the plain way how many cards of each value the piles 0 to j have."""
    values = values_of(row)
    counts = [0] * len(values)
    table = []
    for index, pile in plain_way(row, hand):
        if pile == len(table):
            table.append([])
        counts[values.index(row[index])] += 1
        table[pile] = list(counts)
    return table


def first_breach(row, hand, told):
    """Return the place (list, entry) of the first entry that does not hold, None if all hold."""
    check_hand(hand)
    places = _places(row)
    before = [0] * len(places)
    for number, entries in enumerate(told):
        if len(entries) != len(places):
            return number, len(entries)
        for value, count in enumerate(entries):
            others = sum(entries[:value]) + sum(before[value + 1:])
            if not _holds(places[value], hand + others, count):
                return number, value
        before = entries
    return None


def most_shown(row, hand, told):
    """Return the number of piles that each way has at least by a table, None if it does not hold."""
    if first_breach(row, hand, told) is not None:
        return None
    if not row:
        return 0
    piles = 1
    for entries in told:
        if sum(entries) >= len(row):
            break
        piles += 1
    return piles


def _places(row):
    """Return for each value of a row the ascending list of the indexes of its cards."""
    return [[index for index, card in enumerate(row) if card == value] for value in values_of(row)]


def _holds(places, ahead, count):
    """Tell if not more cards of a value than so many are drawn in time.

    The value has its cards at these places; ahead is what the hand holds and the
    cards of other values that may be laid by then.
    """
    if count < 0:
        return False
    return count >= len(places) or places[count] >= ahead + count
