"""What texts of rows, piles and ways tell."""

from handpiles.errors import Unreadable
from handpiles.texts import NOTHING

DIGITS = "0123456789"
MOST_DIGITS = 60


def read_row(text):
    """Return the row with a text."""
    return [] if text == NOTHING else _cards_in(text, text)


def read_piles(text):
    """Return the piles with a text."""
    return [] if text == NOTHING else [_cards_in(part, text) for part in text.split(" | ")]


def read_way(text):
    """Return the entries of a way, or of a beginning of one, with a text."""
    return [] if text == NOTHING else [_entry_of(word, text) for word in text.split(" ")]


def _cards_in(part, text):
    """Return the cards that a part of a text tells."""
    return [_card_of(word, text) for word in part.split(" ")]


def _card_of(word, text):
    """Return the card that a word of a text tells."""
    if not word.startswith("-"):
        return _number_of(word, text)
    card = -_number_of(word[1:], text)
    if card == 0:
        raise Unreadable(text)
    return card


def _entry_of(word, text):
    """Return the tuple (index, pile) that a word of a text tells."""
    index, mark, pile = word.partition(":")
    if not mark:
        raise Unreadable(text)
    return _number_of(index, text), _number_of(pile, text)


def _number_of(word, text):
    """Return the integer from 0 on that a word of a text tells; refuse the text if it tells none."""
    if not word or len(word) > MOST_DIGITS:
        raise Unreadable(text)
    if not all([sign in DIGITS for sign in word]):
        raise Unreadable(text)
    if word[0] == "0" and len(word) > 1:
        raise Unreadable(text)
    return int(word)
