"""Rows, piles and ways as texts."""

NOTHING = "-"


def show_row(row):
    """Return the cards of a row as a text."""
    return " ".join([str(card) for card in row]) or NOTHING


def show_piles(piles):
    """Return piles, each with a card, as a text."""
    return " | ".join([show_row(pile) for pile in piles]) or NOTHING


def show_way(way):
    """Return the entries of a way, or of a beginning of one, as a text."""
    return " ".join([f"{index}:{pile}" for index, pile in way]) or NOTHING
