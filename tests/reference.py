"""The definitions of the document, worked out anew and plainly for the tests.

Nothing here uses the package.
"""

from itertools import product

GREAT = 10 ** 29 + 7  # 30 digits


def hand_behind(row, hand, way):
    """The indexes in the hand behind the entries of a way, ascending."""
    came = min(len(row), hand + len(way))
    laid = {index for index, _ in way}
    return [index for index in range(came) if index not in laid]


def next_entries(row, hand, way):
    """The entries that are allowed behind the entries of a way."""
    entries = []
    for index in hand_behind(row, hand, way):
        if not way:
            entries.append((index, 0))
            continue
        last, pile = way[-1]
        entries.append((index, pile + 1))
        if row[index] >= row[last]:
            entries.append((index, pile))
    return entries


def plain_entry(row, hand, way):
    """The entry that is laid next plainly."""
    held = sorted(hand_behind(row, hand, way), key=lambda index: (row[index], index))
    if not way:
        return held[0], 0
    last, pile = way[-1]
    for index in held:
        if row[index] >= row[last]:
            return index, pile
    return held[0], pile + 1


def plainly_on(row, hand, way):
    """The way that begins with the entries of a way and goes on plainly."""
    way = list(way)
    while len(way) < len(row):
        way.append(plain_entry(row, hand, way))
    return way


def plain(row, hand):
    return plainly_on(row, hand, [])


def number(row, hand):
    return len({pile for _, pile in plain(row, hand)})


def fronts_in(way):
    piles = sorted({pile for _, pile in way})
    return [len([entry for entry in way if entry[1] <= pile]) for pile in piles]


def keys(row, hand):
    """The keys by the recurrence of the document, found by trying pile after pile."""
    found = []
    for card in row:
        pile = 0
        if len(found) >= hand:
            bound = sorted(found, reverse=True)[hand - 1]
            while (pile, card) < bound:
                pile += 1
        found.append((pile, card))
    return found


def beginnings(row, hand):
    """All beginnings of all ways, the shorter ones first."""
    found = [[]]
    level = [[]]
    for _ in row:
        level = [way + [entry] for way in level for entry in next_entries(row, hand, way)]
        found.extend(level)
    return found


def all_ways(row, hand):
    return [way for way in beginnings(row, hand) if len(way) == len(row)]


def small_rows(most, values):
    """All rows of the cards 0 to values - 1 with at most so many cards."""
    return [list(cards) for many in range(most + 1) for cards in product(range(values), repeat=many)]


def mixed(many, modulus, start):
    """A row of so many cards that go up and down, the same on each run."""
    row = []
    state = start
    for _ in range(many):
        state = (state * 1103515245 + 12345) % 2 ** 31
        row.append((state >> 8) % modulus - modulus // 2)
    return row


def long_rows():
    """Rows of the kinds that the document names."""
    return [
        [],
        [7],
        [-GREAT],
        [4, 4, 4, 4],
        [-1, -5, 0, -5, 3, -1],
        [5, 2, 8, 1, 9, 3],
        [GREAT, -GREAT, GREAT - 1, 0, -GREAT + 1, GREAT],
        [6] * 60,
        list(range(60)),
        list(range(60, 0, -1)),
        list(range(30)) + list(range(30)),
        [10 ** 29 * card + 1 for card in mixed(60, 17, 3)],
        mixed(60, 10 ** 6, 1),
        mixed(60, 5, 2),
        mixed(37, 100, 5),
    ]


def hands_for(row):
    """Sizes of a hand that matter for a row."""
    return sorted({1, 2, 3, 7, max(1, len(row) - 1), max(1, len(row)), len(row) + 1, GREAT})


def lists_inside(value):
    """All lists in a value, itself too."""
    found = []
    if isinstance(value, list):
        found.append(value)
    if isinstance(value, (list, tuple)):
        for part in value:
            found.extend(lists_inside(part))
    return found
