"""The definitions of the document, worked out anew and plainly for the tests.

Nothing here uses the package.
"""

import copy
import inspect
from itertools import product

GREAT = 10 ** 29 + 7  # 30 digits


def hand_behind(row, hand, way):
    """The indexes in the hand behind the entries of a way, ascending."""
    came = min(len(row), hand + len(way))
    laid = {index for index, _ in way}
    return [index for index in range(came) if index not in laid]


def next_entries(row, hand, way):
    """The entries that are allowed behind the entries of a way."""
    entries = []
    for index in hand_behind(row, hand, way):
        if not way:
            entries.append((index, 0))
            continue
        last, pile = way[-1]
        entries.append((index, pile + 1))
        if row[index] >= row[last]:
            entries.append((index, pile))
    return entries


def plain_entry(row, hand, way):
    """The entry that is laid next plainly."""
    held = sorted(hand_behind(row, hand, way), key=lambda index: (row[index], index))
    if not way:
        return held[0], 0
    last, pile = way[-1]
    for index in held:
        if row[index] >= row[last]:
            return index, pile
    return held[0], pile + 1


def plainly_on(row, hand, way):
    """The way that begins with the entries of a way and goes on plainly."""
    way = list(way)
    while len(way) < len(row):
        way.append(plain_entry(row, hand, way))
    return way


def plain(row, hand):
    return plainly_on(row, hand, [])


def number(row, hand):
    return len({pile for _, pile in plain(row, hand)})


def fronts_in(way):
    piles = sorted({pile for _, pile in way})
    return [len([entry for entry in way if entry[1] <= pile]) for pile in piles]


def keys(row, hand):
    """The keys by the recurrence of the document, found by trying pile after pile."""
    found = []
    for card in row:
        pile = 0
        if len(found) >= hand:
            bound = sorted(found, reverse=True)[hand - 1]
            while (pile, card) < bound:
                pile += 1
        found.append((pile, card))
    return found


def keys_behind(row, hand, way):
    """The ascending keys of the hand behind a beginning, by the least pile that is allowed."""
    found = []
    entries = next_entries(row, hand, way)
    for index in hand_behind(row, hand, way):
        found.append((min(pile for other, pile in entries if other == index), row[index]))
    return sorted(found)


def piles_met(row, sizes, downs):
    """The plain piles with a hand of these sizes and piles that turn, and what was drawn by each card."""
    rest = list(row)
    held = []
    piles = []
    drawn = []
    while rest or held:
        size = sizes[min(len(drawn), len(sizes) - 1)]
        while rest and len(held) < size:
            held.append(rest.pop(0))
        drawn.append(len(row) - len(rest))
        card = plain_card(held, piles, downs)
        if card is None:
            piles.append([])
            card = max(held) if turned(piles, downs) else min(held)
        held.remove(card)
        piles[-1].append(card)
    return piles, drawn


def turned(piles, downs):
    """Tell if the present pile descends."""
    return len(piles) <= len(downs) and downs[len(piles) - 1]


def plain_card(held, piles, downs):
    """The card that is laid plainly on the present pile, None if none fits."""
    if not piles:
        return None
    last = piles[-1][-1]
    if turned(piles, downs):
        return max([card for card in held if card <= last], default=None)
    return min([card for card in held if card >= last], default=None)


def piles(row, hand):
    """The piles of a row."""
    return piles_met(row, [hand], [])[0]


def beginnings(row, hand):
    """All beginnings of all ways, the shorter ones first."""
    found = [[]]
    level = [[]]
    for _ in row:
        level = [way + [entry] for way in level for entry in next_entries(row, hand, way)]
        found.extend(level)
    return found


def all_ways(row, hand):
    return [way for way in beginnings(row, hand) if len(way) == len(row)]


def small_rows(most, values):
    """All rows of the cards 0 to values - 1 with at most so many cards."""
    return [list(cards) for many in range(most + 1) for cards in product(range(values), repeat=many)]


def mixed(many, modulus, start):
    """A row of so many cards that go up and down, the same on each run."""
    row = []
    state = start
    for _ in range(many):
        state = (state * 1103515245 + 12345) % 2 ** 31
        row.append((state >> 8) % modulus - modulus // 2)
    return row


def long_rows():
    """Rows of the kinds that the document names."""
    return [
        [],
        [7],
        [-GREAT],
        [4, 4, 4, 4],
        [-1, -5, 0, -5, 3, -1],
        [5, 2, 8, 1, 9, 3],
        [GREAT, -GREAT, GREAT - 1, 0, -GREAT + 1, GREAT],
        [6] * 60,
        list(range(60)),
        list(range(60, 0, -1)),
        list(range(30)) + list(range(30)),
        [10 ** 29 * card + 1 for card in mixed(60, 17, 3)],
        mixed(60, 10 ** 6, 1),
        mixed(60, 5, 2),
        mixed(37, 100, 5),
    ]


def hands_for(row):
    """Sizes of a hand that matter for a row."""
    return sorted({1, 2, 3, 7, max(1, len(row) - 1), max(1, len(row)), len(row) + 1, GREAT})


def lists_inside(value):
    """All lists in a value, itself too."""
    found = []
    if isinstance(value, list):
        found.append(value)
    if isinstance(value, (list, tuple)):
        for part in value:
            found.extend(lists_inside(part))
    return found


def check_habits(case, function, **given):
    """Check what each function promises whatever it answers, and return its answer.

    It takes its arguments by position and by name, leaves them as they are, and
    each list of an answer is new and in one place.
    """
    given = copy.deepcopy(given)
    kept = copy.deepcopy(given)
    case.assertEqual(list(inspect.signature(function).parameters), list(given))
    found = function(*given.values())
    answer = copy.deepcopy(found)
    by_name = function(**given)
    turned_round = function(**{name: given[name] for name in reversed(list(given))})
    case.assertEqual([by_name, turned_round], [answer, answer])
    case.assertEqual(given, kept)
    lists = lists_inside([found, by_name, turned_round, list(given.values())])
    case.assertEqual(len({id(one) for one in lists}), len(lists))
    for change in lists_inside(found):
        change.append("changed")
    case.assertEqual([function(**given), by_name, turned_round], [answer, answer, answer])
    case.assertEqual(given, kept)
    for change in lists_inside(list(given.values())):
        change.clear()
    case.assertEqual([by_name, turned_round], [answer, answer])
    return answer


def check_refused(case, error, value, function, *args):
    """Check that arguments are refused with an error that tells a value, and are left as they are."""
    given = copy.deepcopy(args)
    names = list(inspect.signature(function).parameters)
    for ask in (lambda: function(*given), lambda: function(**dict(zip(names, given)))):
        with case.assertRaises(ValueError) as caught:
            ask()
        case.assertIs(type(caught.exception), error)
        case.assertEqual(caught.exception.value, value)
        case.assertNotIsInstance(caught.exception.value, bool)
        case.assertEqual(given, args)
