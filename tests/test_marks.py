"""The marks of lists of texts (points 2 and 6)."""

import unittest

from nightpaper.errors import NoText
from nightpaper.marks import mark_by, mark_of, mark_text
from tests.things import NO_TEXTS, ODD_TEXTS, refusal


def reckoned(rows):
    """The mark, by the document's own words."""
    mark = 40503
    for number in [ord(sign) for row in rows for sign in [*row, "\n"]]:
        taken = sum([mark] * 33) + number
        joined = taken ^ int(taken / 128)
        mark = joined - 65536 * (joined // 65536)
    return mark


LISTS = [
    [], [""], ["", ""], ["", "", ""], ["a"], ["b"], ["a", ""], ["", "a"], ["a", "b"], ["b", "a"], ["ab"], ["a b"],
    ["a\nb"], ["~"], [" "], ["~" * 2000], ["The quick", "brown fox"], ["x" * 260] * 70, ["{", "}"], ["\n"],
]


class Reckoned(unittest.TestCase):
    def test_of_no_texts(self):
        self.assertEqual(mark_of([]), 40503)

    def test_of_one_sign(self):
        # (40503 * 33 + 10) ^ that // 128, by hand: 1336609 ^ 10442 = 1342891; less 20 * 65536.
        self.assertEqual(40503 * 33 + 10, 1336609)
        self.assertEqual(mark_of([""]), (1336609 ^ 10442) - 20 * 65536)

    def test_by_the_document_s_words(self):
        for rows in LISTS:
            with self.subTest(rows[:3]):
                told = mark_of(rows)
                self.assertIs(type(told), int)
                self.assertEqual(told, reckoned(rows))
                self.assertTrue(0 <= told <= 65535)

    def test_each_sign(self):
        signs = [*map(chr, range(32, 127)), "\n"]
        for sign in signs:
            self.assertEqual(mark_of([sign]), reckoned([sign]))
            self.assertEqual(mark_of(["a" + sign, sign + "b"]), reckoned(["a" + sign, sign + "b"]))

    def test_a_line_feed_stands_behind_each_text(self):
        self.assertEqual(mark_of(["a", "b"]), mark_of(["a\nb"]))
        self.assertNotEqual(mark_of(["a", "b"]), mark_of(["ab"]))
        self.assertNotEqual(mark_of([""]), mark_of([]))

    def test_nothing_is_changed(self):
        rows = ["a", "b"]
        self.assertEqual(mark_of(rows), mark_of(rows))
        self.assertEqual(rows, ["a", "b"])


class Written(unittest.TestCase):
    def test_each_mark_written_and_read_again(self):
        figures = "0123456789abcdef"
        for mark in range(65536):
            text = mark_text(mark)
            parts = (mark // 4096, mark // 256 % 16, mark // 16 % 16, mark % 16)
            self.assertEqual(text, "".join(figures[part] for part in parts))
            self.assertEqual(mark_by(text), mark)

    def test_some(self):
        for mark, text in ((0, "0000"), (15, "000f"), (16, "0010"), (40503, "9e37"), (65535, "ffff")):
            self.assertEqual(mark_text(mark), text)
            told = mark_by(text)
            self.assertIs(type(told), int)
            self.assertEqual(told, mark)

    def test_not_read(self):
        for text in ("9E37", "FFFF", "fffF", "Ffff", " e37", "9e3 ", "9 37", "   0", "9e3", "e37", "00000", "0ffff",
                     "0x1f", "-001", "+001", "1_00", "9e3g", "g000", "9e37\n", "\n9e37", "9e3\n", "\n\n\n\n", "",
                     "0", "ffffffff", "9e3/", "9e3:", "9e3`", "9e3@", "\u0661000"):
            with self.subTest(text):
                self.assertEqual(refusal(NoText, mark_by, text).row, 0)

    def test_of_anything(self):
        for thing in NO_TEXTS + ODD_TEXTS:
            self.assertEqual(refusal(NoText, mark_by, thing).row, 0)
