"""Headings set to rows (points 2 and 9)."""

import itertools
import random
import unittest

from nightpaper.errors import NoFit
from nightpaper.heads import first_head, head_rows
from tests.things import refusal


def ways(words):
    """All ways to part words to rows, in their order."""
    for cuts in itertools.product((False, True), repeat=len(words) - 1):
        rows = [[words[0]]]
        for cut, word in zip(cuts, words[1:]):
            if cut:
                rows.append([word])
            else:
                rows[-1].append(word)
        yield [" ".join(row) for row in rows]


def shown(row, spaced):
    return " ".join(row) if spaced else row


def best_way(text, wide, spaced):
    """The rows of the way that is taken, without the blanks about them; None where a word alone is too long."""
    fitting = []
    for way in ways(text.split()):
        way = [shown(row, spaced) for row in way]
        if max(map(len, way)) <= wide:
            fitting.append(way)
    if not fitting:
        return None
    return min(fitting, key=lambda way: (len(way), max(map(len, way)), [-len(row) for row in way]))


class Heads(unittest.TestCase):
    def told(self, wanted, text, wide, *rest):
        with self.subTest(text=text, wide=wide, rest=rest):
            rows = head_rows(text, wide, *rest)
            self.assertIs(type(rows), list)
            self.assertEqual(rows, wanted)

    def refused(self, rows, text, wide, *rest):
        with self.subTest(text=text, wide=wide, rest=rest):
            self.assertEqual(refusal(NoFit, head_rows, text, wide, *rest).rows, rows)

    def test_in_the_middle(self):
        self.told(["abc"], "abc", 3)
        self.told(["abc "], "abc", 4)
        self.told([" abc "], "abc", 5)
        self.told([" abc  "], "abc", 6)
        self.told(["  abc  "], "abc", 7)
        self.told([" ab "], "ab", 4)
        self.told([" ab  "], "ab", 5)

    def test_as_few_rows_as_can_be(self):
        self.told([" aa bb "], "aa bb", 7)
        self.told(["aa bb"], "aa bb", 5)
        self.told([" aa ", " bb "], "aa bb", 4)

    def test_then_the_shortest_longest_row(self):
        self.told(["  aa bb   ", "  cc dd   "], "aa bb cc dd", 10)
        self.told([" aaaa bb  ", " cc dddd  "], "aaaa bb cc dddd", 10, 2)
        self.told([" bb ", "b c "], "bb b c", 4)
        self.told(["  a bbb  ", "  ccc d  "], "a bbb ccc d", 9)

    def test_then_the_longest_first_row(self):
        self.told(["a b c ", "dddddd"], "a b c dddddd", 6)
        self.told(["aaaaaa", "b c d "], "aaaaaa b c d", 6)
        self.told(["aaaaa", " b c ", "ddddd"], "aaaaa b c ddddd", 5, 3)
        self.told(["a b c", "  d  ", "eeeee"], "a b c d eeeee", 5, 3)
        self.told(["aa b", " cc ", "dddd"], "aa b cc dddd", 4, 3)

    def test_blanks_ahead_between_and_behind(self):
        self.told([" aa bb "], "   aa    bb  ", 7)
        self.told([" aa ", " bb "], " aa       bb ", 4)

    def test_spaced(self):
        self.told(["a b c"], "abc", 5, 2, True)
        self.told([" a b c  "], "abc", 8, 2, True)
        self.told(["a   b"], "a b", 5, 2, True)
        self.told([" a  ", " b  "], "a b", 4, 2, True)
        self.told(["a b   c d"], "ab cd", 9, 2, True)
        self.told(["  a b   ", "  c d   "], "ab cd", 8, 2, True)
        self.told(["a"], "a", 1, 1, True)

    def test_left_out_two_rows_and_not_spaced(self):
        self.assertEqual(head_rows("aaa bbb", 4), head_rows("aaa bbb", 4, 2, False))
        self.refused(3, "aaa bbb ccc", 4)
        self.told(["aaaa"], "aaaa", 4)

    def test_too_many_rows(self):
        self.refused(2, "aaa bbb", 4, 1)
        self.told(["aaa ", "bbb "], "aaa bbb", 4, 2)
        self.refused(3, "aaa bbb ccc", 4, 1)
        self.refused(3, "aaa bbb ccc", 4, 2)
        self.told(["aaa ", "bbb ", "ccc "], "aaa bbb ccc", 4, 3)
        self.refused(5, "aaa bbb ccc ddd eee", 4, 4)
        self.refused(50, " ".join("a" * 50), 1, 4)
        self.refused(2, "ab cd", 8, 1, True)

    def test_a_word_alone_is_too_long(self):
        self.refused(None, "aaaaa", 4)
        self.refused(None, "a aaaaa a", 4)
        self.refused(None, "a b c d e f g h aaaaa", 4, 1)
        self.refused(None, "aaaaa", 4, 4)
        self.refused(None, "abc", 4, 2, True)
        self.refused(None, "a abc", 4, 4, True)
        self.told(["a b c"], "abc", 5, 4, True)
        self.told(["a" * 100], "a" * 100, 100)
        self.refused(None, "a" * 100, 99)
        self.told([" ".join("a" * 100)], "a" * 100, 199, 1, True)
        self.refused(None, "a" * 100, 198, 1, True)

    def test_held_against_all_ways(self):
        chance = random.Random(3)
        for _turn in range(1500):
            words = ["abcdefg"[:chance.randrange(1, 7)] for _word in range(chance.randrange(1, 9))]
            self.held(" ".join(words), chance.randrange(4, 24), chance.randrange(1, 5), chance.choice([False, True]))

    def test_held_against_all_ways_of_short_words(self):
        for many in range(1, 5):
            for lengths in itertools.product((1, 2, 3, 5), repeat=many):
                text = " ".join("x" * length for length in lengths)
                for wide in (4, 5, 7, 10):
                    self.held(text, wide, 4, False)

    def held(self, text, wide, most, spaced):
        wanted = best_way(text, wide, spaced)
        if wanted is None or len(wanted) > most:
            rows = refusal(NoFit, head_rows, text, wide, most, spaced).rows
            self.assertEqual(rows, None if wanted is None else len(wanted))
            return
        rows = head_rows(text, wide, most, spaced)
        self.assertEqual([row.strip() for row in rows], wanted, (text, wide, most, spaced))
        for row, bare in zip(rows, wanted):
            self.assertEqual(len(row), wide)
            self.assertEqual(row.index(bare), (wide - len(bare)) // 2)


class FirstHead(unittest.TestCase):
    def told(self, wanted, texts, *rest):
        with self.subTest(texts=texts, rest=rest):
            told = first_head(texts, *rest)
            self.assertIs(type(told), tuple)
            self.assertIs(type(told[0]), int)
            self.assertIs(type(told[1]), list)
            self.assertEqual(told, wanted)

    def refused(self, rows, texts, *rest):
        with self.subTest(texts=texts, rest=rest):
            self.assertEqual(refusal(NoFit, first_head, texts, *rest).rows, rows)

    def test_the_first_that_fits(self):
        self.told((0, ["aaaa"]), ("aaaa",), 4)
        self.told((0, ["aaaa"]), ("aaaa", "bbb"), 4)
        self.told((1, ["bbb "]), ("aaaaa", "bbb"), 4)
        self.told((1, [" bb ", "b c "]), ("aaaaa", "bb b c", "d"), 4)
        self.told((3, [" d  "]), ("aaaaa", "bbb bbb bbb", "ccccc", "d"), 4)
        self.told((2, [" c  "]), ("a a a a a a", "bbbbb", "c", "c"), 4)

    def test_most_and_spaced(self):
        self.told((0, ["aaa ", "bbb "]), ("aaa bbb", "c"), 4)
        self.told((1, [" c  "]), ("aaa bbb", "c"), 4, 1)
        self.told((0, ["aaa ", "bbb ", "ccc "]), ("aaa bbb ccc", "c"), 4, 3)
        self.told((1, ["c d "]), ("abc", "cd"), 4, 2, True)
        self.told((0, ["abc "]), ("abc", "cd"), 4, 2, False)

    def test_the_least_number_told(self):
        self.refused(3, ("a" * 5, "bbb bbb bbb", "ccc ccc ccc ccc"), 4)
        self.refused(3, ("ccc ccc ccc ccc", "bbb bbb bbb", "a" * 5), 4)
        self.refused(3, ("ccc ccc ccc ccc", "a" * 5, "bbb bbb bbb"), 4)
        self.refused(4, ("ccc ccc ccc ccc",), 4)
        self.refused(4, ("ccc ccc ccc ccc", "ccc ccc ccc ccc ccc"), 4, 3)
        self.refused(2, ("ccc ccc ccc ccc", "ccc ccc"), 4, 1)

    def test_none_told(self):
        self.refused(None, ("aaaaa",), 4)
        self.refused(None, ("aaaaa", "b bbbbb", "c c c c c c ccccc"), 4)
        self.refused(None, ("abc", "bcd"), 4, 2, True)

    def test_as_head_rows_tells(self):
        texts = ("one two three four", "one two three", "one two", "one")
        for wide in range(3, 24):
            for most in range(1, 5):
                for spaced in (False, True):
                    fitting = [number for number, text in enumerate(texts) if self.fits(text, wide, most, spaced)]
                    if fitting:
                        number = fitting[0]
                        self.told((number, head_rows(texts[number], wide, most, spaced)), texts, wide, most, spaced)
                    else:
                        refusal(NoFit, first_head, texts, wide, most, spaced)

    def fits(self, text, wide, most, spaced):
        way = best_way(text, wide, spaced)
        return way is not None and len(way) <= most

    def test_each_list_is_new(self):
        texts = ("aaaaa", "bb b c")
        rows = first_head(texts, 4)[1]
        rows.append("x")
        rows[0] = "y"
        self.assertEqual(first_head(texts, 4), (1, [" bb ", "b c "]))
        rows = head_rows("bb b c", 4)
        rows.clear()
        self.assertEqual(head_rows("bb b c", 4), [" bb ", "b c "])
