"""Piles merged to one, each merge moving all cards of its piles once."""

from handpiles.hands import piles_of
from handpiles.laying import check_number


def moves_of(lengths, ways, told):
    """Return the number of the moves of told merges, None if they are not allowed."""
    _check_lengths(lengths)
    check_number(ways, 2)
    there = dict(enumerate(lengths))
    moves = 0
    for index, merge in enumerate(told):
        if not _may_merge(there, ways, merge):
            return None
        length = sum([there.pop(number) for number in merge])
        there[len(lengths) + index] = length
        moves += length
    return moves if len(there) <= 1 else None


def least_moves(lengths, ways):
    """Return the least number of moves that merge piles to one."""
    return moves_of(lengths, ways, best_plan(lengths, ways))


def best_plan(lengths, ways):
    """Return merges that make one pile with the least number of moves."""
    _check_lengths(lengths)
    check_number(ways, 2)
    piles = sorted([(length, number) for number, length in enumerate(lengths)])
    plan = []
    # Only the first merge may take fewer piles than it could, so that the great ones move least.
    many = 2 + (len(piles) - 2) % (ways - 1)
    while len(piles) > 1:
        taken = piles[:many]
        whole = (sum([length for length, _ in taken]), len(lengths) + len(plan))
        plan.append([number for _, number in taken])
        piles = sorted(piles[many:] + [whole])
        many = ways
    return plan


def depth(number, ways):
    """Return in how many merges a card has to be at the most if so many piles become one."""
    check_number(number, 0)
    check_number(ways, 2)
    found = 0
    reached = 1
    while reached < number:
        reached *= ways
        found += 1
    return found


def least_neighbours(lengths):
    """Return the least number of moves if two piles side by side are merged at a time."""
    _check_lengths(lengths)
    least = {(start, start + 1): 0 for start in range(len(lengths))}
    for many in range(2, len(lengths) + 1):
        for start in range(len(lengths) - many + 1):
            end = start + many
            halves = [least[(start, middle)] + least[(middle, end)] for middle in range(start + 1, end)]
            least[(start, end)] = min(halves) + sum(lengths[start:end])
    return least.get((0, len(lengths)), 0)


def sort_moves(row, hand, ways):
    """Return how often cards move if a row is laid on piles and these are merged to one."""
    return len(row) + least_moves([len(pile) for pile in piles_of(row, hand)], ways)


def _check_lengths(lengths):
    """Refuse the first length that is less than 0."""
    for length in lengths:
        check_number(length, 0)


def _may_merge(there, ways, merge):
    """Tell if a merge is of different piles that are there, not too few and not too many."""
    if len(merge) < 2 or len(merge) > ways or len(set(merge)) < len(merge):
        return False
    return all([number in there for number in merge])
