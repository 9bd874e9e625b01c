"""Which keys a hand has, and by them which beginning of a way is ahead of another one."""

from handpiles.errors import InvalidNumber
from handpiles.hands import plain_way
from handpiles.laying import begun


def keys_of(row, hand, told):
    """Return the ascending keys (pile, card) of the hand behind a beginning of a way."""
    return _keys_behind(begun(row, hand, told))


def is_ahead(row, hand, one, other):
    """Tell if no key behind a beginning is greater than that behind another one."""
    leading = begun(row, hand, one)
    following = begun(row, hand, other)
    if len(one) != len(other):
        raise InvalidNumber(len(other))
    return all([mine <= theirs for mine, theirs in zip(_keys_behind(leading), _keys_behind(following))])


def piles_from(row, hand, told):
    """Return the number of the piles if a beginning goes on plainly."""
    laying = begun(row, hand, told)
    laying.go_on()
    return laying.piles_begun()


def late_cards(row, hand, told):
    """Return the ascending indexes of the cards laid on a greater pile than plainly."""
    way = begun(row, hand, told).way
    plain = dict(plain_way(row, hand))
    return sorted([index for index, pile in way if pile > plain[index]])


def _keys_behind(laying):
    """Return the ascending keys of the cards in the hand of a laying."""
    keys = []
    for index in laying.held:
        pile = laying.pile if laying.fits(index) else laying.pile + 1
        keys.append((pile, laying.row[index]))
    return sorted(keys)
