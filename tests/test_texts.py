"""handpiles.texts and handpiles.readings, back and forth: promises [2] and [3]."""

import random
import unittest
from itertools import product

from handpiles.errors import Unreadable
from handpiles.readings import read_piles, read_row, read_way
from handpiles.texts import show_piles, show_row, show_way
from tests.reference import GREAT, all_ways, check_habits, check_refused, long_rows, piles, plain, small_rows

READERS = [read_row, read_piles, read_way]
WIDE = 10 ** 60 - 1  # 60 digits
WIDER = 10 ** 60  # 61 digits
# Words that no integer has, whatever it stands for.
NO_INTEGERS = ["", "+1", "+0", "00", "01", "007", "-", "--1", "-+1", "+-1", "- 1", "1-", "1.0", "1e3", "1_0", "x", "1x",
               "0x1", "a1", "1,2", "(1)", "'1'", "None", "True", "|", "||", "1|", "|1", ";", "~", "!", "_", "*",
               "-01", "-00", "-0", str(WIDER), "-" + str(WIDER), "0" * 61, "1" * 61, "1" * 5000, "-" + "7" * 5000,
               "0" + "1" * 59]
# Texts with a blank too many or too few, or nothing where a word ought to be.
NO_TEXTS = ["", " ", "  ", " 1", "1 ", "1  2", " - ", "- ", " -", "- -", "1 -", "- 1", "-1 -", "--", "1 2 ", "|", " | ",
            "| 1", "1 |", "1 | ", " | 1", "1 || 2", "1 |  2", "1  | 2", "1 | | 2", "1 |  | 2", "1| 2", "1 |2", "1|2",
            "- | 1", "1 | -", "- | -", "[]", "[1]", "1, 2", "0:0 -", "0:0  1:0", " 0:0", "0:0 ", "0: 0", "0 :0",
            "0:0 | 1:0", "nothing", ":", "::"]


def row_text(row):
    """The text of a row, sign by sign."""
    text = ""
    for card in row:
        text += (" " if text else "") + str(card)
    return text if row else "-"


def piles_text(told):
    text = ""
    for pile in told:
        text += (" | " if text else "") + row_text(pile)
    return text if told else "-"


def way_text(way):
    text = ""
    for index, pile in way:
        text += (" " if text else "") + str(index) + ":" + str(pile)
    return text if way else "-"


def refused(case, reader, text):
    check_refused(case, Unreadable, text, reader, text)


class BackAndForth(unittest.TestCase):

    def test_rows(self):
        for row in long_rows() + small_rows(4, 3) + [[-3, 0, 3], [WIDE, -WIDE, 0], list(range(-500, 500))]:
            self.assertEqual(show_row(row), row_text(row))
            self.assertEqual(read_row(row_text(row)), row)
            self.assertTrue(all(type(card) is int for card in read_row(row_text(row))))

    def test_piles(self):
        found = [piles(row, hand) for row in long_rows() + small_rows(4, 3) for hand in (1, 2)]
        # Any lists of cards are read, also such as no row has as its piles.
        found += [[[1], [2], [3]], [[3, 2, 1]], [[0], [0], [0]], [[WIDE, -WIDE], [-1]], [[-1]], [[7]] * 100]
        for told in found:
            self.assertEqual(show_piles(told), piles_text(told))
            self.assertEqual(read_piles(piles_text(told)), told)

    def test_ways(self):
        found = [plain(row, hand) for row in long_rows() for hand in (1, 2, GREAT)]
        found += [way for row in small_rows(3, 2) for way in all_ways(row, 2)]
        # Any entries are read, also such as are no way.
        found += [[(0, 0), (0, 0)], [(9, 9)], [(WIDE, WIDE), (0, WIDE)], [(3, 0)] * 700]
        for way in found:
            self.assertEqual(show_way(way), way_text(way))
            self.assertEqual(read_way(way_text(way)), way)
            self.assertTrue(all(isinstance(entry, tuple) for entry in read_way(way_text(way))))

    def test_nothing(self):
        self.assertEqual([show_row([]), show_piles([]), show_way([])], ["-", "-", "-"])
        for reader in READERS:
            self.assertEqual(reader("-"), [])

    def test_by_hand(self):
        self.assertEqual(read_row("0"), [0])
        self.assertEqual(read_row("-1 0 1"), [-1, 0, 1])
        self.assertEqual(read_piles("5"), [[5]])
        self.assertEqual(read_piles("-5 2 | -7"), [[-5, 2], [-7]])
        self.assertEqual(read_way("0:0"), [(0, 0)])
        self.assertEqual(read_way("10:3 2:11"), [(10, 3), (2, 11)])

    def test_sixty_digits(self):
        for number in (WIDE, 10 ** 59):
            self.assertEqual(read_row(f"{number} -{number}"), [number, -number])
            self.assertEqual(read_piles(f"{number} | -{number}"), [[number], [-number]])
            self.assertEqual(read_way(f"{number}:{number}"), [(number, number)])
            self.assertEqual(show_row(read_row(f"-{number}")), f"-{number}")

    def test_long_texts(self):
        text = " ".join(["1"] * 4000)
        self.assertEqual(show_row(read_row(text)), text)
        text = " | ".join(["1"] * 2000)
        self.assertEqual(show_piles(read_piles(text)), text)
        text = " ".join(["0:1"] * 2000)
        self.assertEqual(show_way(read_way(text)), text)


class NotRead(unittest.TestCase):

    def test_words_that_are_no_integers(self):
        for word in NO_INTEGERS:
            if word != "-":
                refused(self, read_row, word)
                refused(self, read_piles, word)
            refused(self, read_way, f"{word}:0")
            refused(self, read_way, f"0:{word}")
            for text in (f"3 {word}", f"{word} 3", f"3 {word} 4"):
                refused(self, read_row, text)
                if word != "|":
                    refused(self, read_piles, text)
            for text in (f"3 | {word}", f"{word} | 3", f"3 | 4 {word}", f"3 | {word} | 4"):
                refused(self, read_row, text)
                refused(self, read_piles, text)
            for text in (f"1:1 {word}:0", f"0:{word} 1:1", f"1:1 0:{word} 1:1", f"1:1 {word}"):
                refused(self, read_way, text)

    def test_texts_that_nothing_has(self):
        for text in NO_TEXTS:
            for reader in READERS:
                refused(self, reader, text)

    def test_texts_of_another_kind(self):
        for text in ("1 | 2", "0:0", "1:1 2:2"):
            refused(self, read_row, text)
        for text in ("0:0", "1 | 0:0", "0:0 | 1"):
            refused(self, read_piles, text)
        for text in ("1", "1 2", "1 | 2", "0:0 1", "1 0:0", "0:0:0", "0:0: 0", "0:", ":0", ":", "0::0", "0 : 0"):
            refused(self, read_way, text)

    def test_ways_have_no_negative_integers(self):
        for text in ("-1:0", "0:-1", "-0:0", "0:-0", "-1:-1", "0:0 -1:0", f"-{WIDE}:0"):
            refused(self, read_way, text)

    def test_all_short_texts(self):
        signs = "01- |:+"
        shown = {reader: set() for reader in READERS}
        numbers = [number for number in range(-111, 112) if set(str(number)) <= set("01-")]
        for row in [[]] + [[card] for card in numbers] + [list(two) for two in product(numbers, repeat=2)]:
            shown[read_row].add(show_row(row))
            shown[read_piles].add(show_row(row))
            if len(row) == 2:
                shown[read_piles].add(show_piles([[card] for card in row]))
        for row in product(numbers, repeat=3):
            if all(card in (0, 1) for card in row):
                shown[read_row].add(show_row(list(row)))
                shown[read_piles].add(show_row(list(row)))
        for index, pile in product(numbers, repeat=2):
            if index >= 0 and pile >= 0:
                shown[read_way].add(show_way([(index, pile)]))
        shown[read_way].add("-")
        for many in range(5):
            for text in map("".join, product(signs, repeat=many)):
                for reader in READERS:
                    if text in shown[reader] or (many == 4 and self.is_long_number(reader, text)):
                        reader(text)
                    else:
                        with self.assertRaises(Unreadable) as caught:
                            reader(text)
                        self.assertEqual(caught.exception.value, text)

    def is_long_number(self, reader, text):
        return reader is not read_way and text.isdigit() and text[0] == "1"

    def test_what_is_read_has_just_this_text(self):
        draw = random.Random(2)
        shows = {read_row: show_row, read_piles: show_piles, read_way: show_way}
        texts = ["5 -2 8", "2 5 | 1", "1:0 0:1", "-7", "10 -20 | 0 | 33", "12:0 10:1 3:1", "-"]
        answers = {reader: [0, 0] for reader in READERS}
        for _ in range(4000):
            text = draw.choice(texts)
            for _ in range(draw.randint(0, 2)):
                at = draw.randint(0, len(text))
                text = text[:at] + draw.choice(["", "", " ", "0", "1", "-", "|", ":", "9 ", " | "]) + text[at + draw.randint(0, 1):]
            for reader in READERS:
                try:
                    found = reader(text)
                except Unreadable as error:
                    self.assertEqual(error.value, text)
                    answers[reader][0] += 1
                else:
                    self.assertEqual(shows[reader](found), text)
                    answers[reader][1] += 1
        for counts in answers.values():
            self.assertGreater(min(counts), 300)


class Habits(unittest.TestCase):

    def test_by_position_and_by_name(self):
        for row in ([], [5, -2, 8]):
            check_habits(self, show_row, row=row)
            check_habits(self, read_row, text=show_row(row))
        for told in ([], [[2, 5], [1]], [[3]]):
            check_habits(self, show_piles, piles=told)
            check_habits(self, read_piles, text=show_piles(told))
        for way in ([], [(1, 0), (0, 1)]):
            check_habits(self, show_way, way=way)
            check_habits(self, read_way, text=show_way(way))


if __name__ == "__main__":
    unittest.main()
