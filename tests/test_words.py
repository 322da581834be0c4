"""Names, hours and money (points 2, 4 and 5)."""

import unittest

from nightpaper.errors import NoText
from nightpaper.words import is_hour, is_name, is_whole, money_by, money_text
from tests.things import NO_TEXTS, ODD_TEXTS, refusal

NAMES = ["a", "z", "ab", "ann", "abcdefg", "abcdefgh", "stuvwxyz", "zzzzzzzz", "true", "none"]

NO_NAMES = [
    "", "abcdefghi", "a" * 100, "A", "Z", "Ann", "anN", "ABCDEFGH", "a b", " a", "a ", "a\n", "\na", "abcdefgh\n",
    "abcdefg\n", "\n", "a1", "1a", "0", "a-b", "a_b", "a.b", "`", "{", "a`", "a{", "@", "[",
]


class Wholes(unittest.TestCase):
    def test_a_truth_is_none(self):
        for thing in (0, 1, -1, 23, 10 ** 30, -10 ** 30):
            self.assertIs(is_whole(thing), True)
        for thing in (True, False, None, "", "1", (), (1,), [], [1], {}, {1: 1}):
            self.assertIs(is_whole(thing), False)


class Names(unittest.TestCase):
    def test_names(self):
        for thing in NAMES:
            with self.subTest(thing):
                self.assertIs(is_name(thing), True)

    def test_each_small_letter(self):
        for sign in map(chr, range(32, 127)):
            self.assertIs(is_name(sign), sign in "abcdefghijklmnopqrstuvwxyz")
            self.assertIs(is_name("a" + sign), sign in "abcdefghijklmnopqrstuvwxyz")

    def test_no_names(self):
        for thing in NO_NAMES:
            with self.subTest(thing):
                self.assertIs(is_name(thing), False)

    def test_lengths(self):
        for many in range(20):
            self.assertIs(is_name("n" * many), 1 <= many <= 8)

    def test_of_anything(self):
        for thing in NO_TEXTS + ["ab".split(), ("a", "b"), {"a": 1, "b": 2}]:
            self.assertIs(is_name(thing), False)
        for thing in ODD_TEXTS:
            self.assertIs(is_name(thing), False)


class Hours(unittest.TestCase):
    def test_whole_numbers(self):
        for thing in range(-30, 60):
            self.assertIs(is_hour(thing), 0 <= thing <= 23)
        for thing in (10 ** 30, -10 ** 30, 10 ** 5000):
            self.assertIs(is_hour(thing), False)

    def test_truths_are_none(self):
        self.assertIs(is_hour(1), True)
        self.assertIs(is_hour(True), False)
        self.assertIs(is_hour(0), True)
        self.assertIs(is_hour(False), False)

    def test_of_anything(self):
        for thing in NO_TEXTS + ODD_TEXTS + ["5", "05", (5,), [5], {5: 5}]:
            if type(thing) is int:
                continue
            with self.subTest(thing if type(thing) is str else type(thing)):
                self.assertIs(is_hour(thing), False)


class Written(unittest.TestCase):
    EDGES = {
        0: "0-00-00", 1: "0-00-01", 11: "0-00-11", 12: "0-01-00", 13: "0-01-01", 119: "0-09-11", 120: "0-10-00",
        239: "0-19-11", 240: "1-00-00", 241: "1-00-01", 295: "1-04-07", 2399: "9-19-11", 2400: "10-00-00",
        10 ** 12: "4166666666-13-04",
    }

    def test_the_document_s_examples(self):
        self.assertEqual(money_text(295), "1-04-07")
        self.assertEqual(money_text(-5), "-0-00-05")

    def test_edges_either_way(self):
        for pence, text in self.EDGES.items():
            with self.subTest(pence):
                self.assertEqual(money_text(pence), text)
                if pence:
                    self.assertEqual(money_text(-pence), "-" + text)

    def test_read_again(self):
        many = [*range(-1000, 1000), 10 ** 6, 10 ** 12, 10 ** 12 - 1, 10 ** 12 + 1, 240 * 10 ** 12]
        for pence in many + [-one for one in many]:
            text = money_text(pence)
            self.assertIs(type(text), str)
            told = money_by(text)
            self.assertIs(type(told), int)
            self.assertEqual(told, pence)


class Read(unittest.TestCase):
    def test_edges_either_way(self):
        for pence, text in Written.EDGES.items():
            self.assertEqual(money_by(text), pence)
            if pence:
                self.assertEqual(money_by("-" + text), -pence)

    def test_figures_of_pounds(self):
        for figures in (1, 2, 9, 10, 11, 39, 40):
            for pounds in ("1" + "0" * (figures - 1), "9" * figures):
                self.assertEqual(money_by(pounds + "-19-11"), int(pounds) * 240 + 239)
                self.assertEqual(money_by("-" + pounds + "-00-00"), -int(pounds) * 240)
        for figures in (41, 42, 100, 5000):
            for pounds in ("1" + "0" * (figures - 1), "9" * figures):
                self.refused(pounds + "-19-11")
                self.refused("-" + pounds + "-00-00")

    def test_noughts_ahead(self):
        for text in ("00-00-00", "01-04-07", "-01-04-07", "000-00-01", "0" * 40 + "-00-01"):
            self.refused(text)

    def test_figures_of_parts(self):
        for text in ("1-4-07", "1-04-7", "1-004-07", "1-04-007", "1--07", "1-04-", "-04-07", "--04-07", "1-0 4-07"):
            self.refused(text)

    def test_too_many_shillings_or_pence(self):
        for shillings in range(100):
            for pennies in range(100):
                text = f"3-{shillings:02d}-{pennies:02d}"
                if shillings < 20 and pennies < 12:
                    self.assertEqual(money_by(text), 720 + shillings * 12 + pennies)
                else:
                    self.refused(text)
                    self.refused("-" + text)

    def test_signs_ahead(self):
        for text in ("--1-04-07", "---0-00-05", "-0-00-00", "--0-00-00", "+1-04-07", "1-04-07-", "-1-04-07-",
                     "1-04--07", "1--04-07", "1-04", "1", "-1", "1-04-07-01", "1-+4-07", "1-04-+7", "+-04-07"):
            self.refused(text)

    def test_other_signs(self):
        for text in ("1-04-07\n", "\n1-04-07", "1-04-07 ", " 1-04-07", "1 04 07", "1_0-04-07", "a-04-07", "1-0a-07",
                     "1-04-0x", "1.04.07", "1\n-04-07", "-\n1-04-07", "\u0661-04-07", "1-0\u0664-07", "\u00b2-00-00"):
            self.refused(text)

    def test_of_anything(self):
        for thing in NO_TEXTS + ODD_TEXTS:
            self.refused(thing)

    def refused(self, thing):
        self.assertEqual(refusal(NoText, money_by, thing).row, 0)
