"""Texts set to rows (points 2 and 8)."""

import random
import unittest

from nightpaper.setting import set_rows


def reference(text, wide, full, gap):
    """The rows by the document's words, sign by sign and as slowly as they are told."""
    rows = []
    for paragraph in text.split("\n"):
        parts = []
        for word in paragraph.split():
            while len(word) > wide:
                parts.append("".join(list(word)[:wide - 1]) + "-")
                word = "".join(list(word)[wide - 1:])
            parts.append(word)
        if not parts:
            continue
        taken = []
        while parts:
            many = 1
            while many < len(parts) and len(" ".join(parts[:many + 1])) <= wide:
                many += 1
            taken.append(parts[:many])
            parts = parts[many:]
        if rows:
            rows += [" " * wide for _row in range(gap)]
        for line in taken:
            if full and line is not taken[-1]:
                # The lacking blanks are put to the places one by one, from the first on, round and round.
                blanks = [1] * (len(line) - 1)
                place = 0
                while blanks and sum(blanks) + sum(map(len, line)) < wide:
                    blanks[place] += 1
                    place = (place + 1) % len(blanks)
                row = line[0] + "".join(" " * many + word for many, word in zip(blanks, line[1:]))
            else:
                row = " ".join(line)
            rows.append(row + " " * (wide - len(row)))
    return rows


class Rows(unittest.TestCase):
    def told(self, wanted, text, wide, *rest):
        with self.subTest(text=text[:40], wide=wide, rest=rest):
            rows = set_rows(text, wide, *rest)
            self.assertIs(type(rows), list)
            self.assertEqual(rows, [row.ljust(wide) for row in wanted])

    def test_as_many_words_as_it_has_room_for(self):
        self.told(["aa bb", "cc"], "aa bb cc", 5, False)
        self.told(["aa bb", "cc"], "aa bb cc", 7, False)
        self.told(["aa bb cc"], "aa bb cc", 8, False)
        self.told(["aaaa", "b", "cccc"], "aaaa b cccc", 4, False)
        self.told(["a b", "c d"], "a b c d", 4, False)

    def test_rows_that_are_just_full(self):
        self.told(["aaaa", "bbbb"], "aaaa bbbb", 4)
        self.told(["aa bb", "cc dd"], "aa bb cc dd", 5)
        self.told(["aa bb", "cc dd", "ee ff"], "aa bb cc dd ee ff", 5, False)

    def test_long_words(self):
        self.told(["abc-", "de"], "abcde", 4)
        self.told(["abcd"], "abcd", 4)
        self.told(["abc-", "def-", "ghij"], "abcdefghij", 4)
        self.told(["abc-", "def-", "ghi-", "jk"], "abcdefghijk", 4)
        self.told(["abc-", "de f"], "abcde f", 4)
        self.told(["x", "abc-", "de", "yyy"], "x abcde yyy", 4)
        self.told(["x  abcde", "yyy"], "x abcde yyy", 8)
        self.told(["abcdefg-", "hi"], "abcdefghi", 8, False)
        self.told(["abcdefgh"], "abcdefgh", 8, False)
        self.told(["---", "---"], "--- ---", 4)
        self.told(["----", "--"], "-----", 4)

    def test_spread(self):
        self.told(["aa   bb", "cccc"], "aa bb cccc", 7)
        self.told(["a   b   c", "dddddd"], "a b c dddddd", 9)
        self.told(["a    b   c", "dddddd"], "a b c dddddd", 10)
        self.told(["a    b    c", "dddddd"], "a b c dddddd", 11)
        self.told(["a  b  c d", "eeeeeeee"], "a b c d eeeeeeee", 9)
        self.told(["a  b c d", "eeeeeeee"], "a b c d eeeeeeee", 8)
        self.told(["aa bb", "cccc"], "aa bb cccc", 7, False)

    def test_a_row_of_one_word_stays(self):
        self.told(["aaa", "bbbb"], "aaa bbbb", 5)
        self.told(["a", "bbbbb", "c"], "a bbbbb c", 5)

    def test_a_paragraph_s_last_row_is_not_spread(self):
        self.told(["aa   bb", "cc dd"], "aa bb cc dd", 7)
        self.told(["aa bb"], "aa bb", 9)
        self.told(["aa   bb", "cc dd", "ee   ff", "gg h"], "aa bb cc dd\nee ff gg h", 7)

    def test_left_out_it_is_full_and_without_gaps(self):
        self.assertEqual(set_rows("aa bb cc\ndd", 7), set_rows("aa bb cc\ndd", 7, True, 0))
        self.told(["aa   bb", "cc", "dd"], "aa bb cc\ndd", 7)

    def test_paragraphs_and_gaps(self):
        for gap in range(4):
            blank = [""] * gap
            for full in (True, False):
                self.told(["a"] + blank + ["b"] + blank + ["c"], "a\nb\nc", 4, full, gap)
                self.told(["a"] + blank + ["b"], "\n\na\n \n\n  \nb\n\n", 4, full, gap)
                self.told(["a"], "\na\n", 4, full, gap)
                self.told(["a"], "a", 4, full, gap)
                self.told(["a"], "  \n a \n   ", 4, full, gap)
                self.told(["abc-", "de"] + blank + ["ffff", "g h"], "abcde\nffff g h", 4, full, gap)
            self.told(["aa   bb", "cccc"] + blank + ["dd   ee", "ffff"], "aa bb cccc\ndd ee ffff", 7, True, gap)
            self.told(["aa bb", "cccc"] + blank + ["dd ee", "ffff"], "aa bb cccc\ndd ee ffff", 7, False, gap)

    def test_blanks_part_words_however_many(self):
        self.told(["a b"], "  a    b   ", 8)
        self.told(["aa   bb", "cccc"], "   aa     bb cccc", 7)

    def test_without_words(self):
        for text in ("", " ", "     ", "\n", "\n\n\n", " \n \n", "  \n"):
            for full in (True, False):
                for gap in range(4):
                    self.told([], text, 4, full, gap)
                    self.told([], text, 260, full, gap)

    def test_two_thousand_signs(self):
        word = "abcdefghij" * 200
        self.told([word[at:at + 3] + "-" for at in range(0, 1995, 3)] + [word[1995:1998] + "-", word[1998:]], word, 4)
        rows = set_rows(word, 260)
        self.assertEqual([len(row.rstrip()) for row in rows], [260] * 7 + [2000 - 7 * 259])
        self.assertEqual("".join(row.rstrip(" -") for row in rows), word)
        letters = "a " * 1000
        self.told(["a  a"] * 499 + ["a a"], letters, 4)
        self.told(["a a"] * 500, letters, 4, False)
        self.assertEqual(set_rows(letters, 260), reference(letters, 260, True, 0))
        self.told([], " " * 2000, 4)
        self.told([], " " * 2000, 260)
        self.told([], "\n" * 2000, 4, True, 3)
        feeds = "a\n" * 1000
        self.told(["a", "", "", ""] * 999 + ["a"], feeds, 4, True, 3)

    def test_widest(self):
        self.told(["a" * 260], "a" * 260, 260)
        self.told(["a" * 259 + "-", "aa"], "a" * 261, 260)
        self.told(["a" + " " * 128 + "b" * 131, "c" * 130], "a " + "b" * 131 + " " + "c" * 130, 260)

    def test_markup_is_nothing_here(self):
        self.told(["{up a}"], "{up a}", 20)

    def test_somewhat_beyond_the_widths(self):
        self.told(["ab-", "cd"], "abcd", 3)
        self.told(["a-", "b-", "cd"], "abcd", 2)
        self.assertEqual([row.rstrip() for row in set_rows("abcd e", 1)], ["a-", "b-", "cd", "e"])
        self.assertEqual(set_rows("a b", 300), ["a b".ljust(300)])
        self.assertEqual(set_rows("a\nb", 4, True, 5), ["a   "] + ["    "] * 5 + ["b   "])

    def test_each_list_is_new(self):
        rows = set_rows("a b\nc", 4)
        rows.append("x")
        rows[0] = "y"
        self.assertEqual(set_rows("a b\nc", 4), ["a b ", "c   "])


class HeldAgainstTheReference(unittest.TestCase):
    def test_many_texts(self):
        chance = random.Random(11)
        for _turn in range(1200):
            signs = chance.choice(["ab \n", "abcdef    ", "a ", "abcdefghi \n", "ab     \n\n"])
            text = "".join(chance.choice(signs) for _sign in range(chance.randrange(120)))
            wide = chance.choice([4, 5, 6, 7, 8, 9, 12, 20, 40])
            for full in (True, False):
                gap = chance.randrange(4)
                rows = set_rows(text, wide, full, gap)
                self.assertEqual(rows, reference(text, wide, full, gap), (text, wide, full, gap))
                self.assertTrue(all(len(row) == wide for row in rows))
