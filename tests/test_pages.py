"""Pages (points 2, 3 and 15)."""

import copy
import random
import unittest

from nightpaper.ads import ad_block, stand_ads
from nightpaper.columns import column_of
from nightpaper.errors import NoFit, Unlike
from nightpaper.marks import mark_of, mark_text
from nightpaper.pages import Page, page_of
from nightpaper.pieces import Piece
from tests.things import NO_TEXTS, ODD_TEXTS, refusal


def piece(name, body=5, least=2, rank=5):
    """A piece of a heading of one row and of so many rows of body."""
    return Piece(name, (name * 4,), "\n".join(name * body), least, rank)


def ad(name, span, high):
    """An advertisement whose block has so many rows."""
    return (name, span, "\n".join("x" * (high - 2)))


def tops_of(form, ads, keep):
    """The top of each column, by the advertisements put down one by one."""
    tops = [0] * form[0]
    for number, one in enumerate(ads):
        before = len(stand_ads(form, ads[:number], keep)[0])
        places = stand_ads(form, ads[:number + 1], keep)[0]
        if len(places) > before:
            _name, column, row, _high = places[-1]
            for at in range(column, column + one[1]):
                tops[at] = form[2] - row
    return tops


def by_signs(form, title, number, ads, columns, keep):
    """The rows of a page, sign by sign."""
    many, wide, deep = form
    whole = many * wide + 3 * (many - 1)
    signs = [[" "] * whole for _row in range(deep)]

    def put(row, at, text):
        for step, sign in enumerate(text):
            signs[row][at + step] = sign

    for row in range(deep):
        for column in range(1, many):
            put(row, column * (wide + 3) - 2, "|")
    tops = tops_of(form, ads, keep)
    for column, pieces in enumerate(columns):
        for row, text in enumerate(column_of(pieces, wide, deep - tops[column])[0].lines()):
            put(row, column * (wide + 3), text)
    for number_of_ad, one in enumerate(ads):
        before = len(stand_ads(form, ads[:number_of_ad], keep)[0])
        places = stand_ads(form, ads[:number_of_ad + 1], keep)[0]
        if len(places) > before:
            _name, column, row, _high = places[-1]
            for step, text in enumerate(ad_block(form, one).lines()):
                put(row + step, column * (wide + 3), text)
    behind = "page " + str(number)
    first = title + " " * (whole - len(title) - len(behind)) + behind
    return [first, "=" * whole] + ["".join(row) for row in signs]


class Rows(unittest.TestCase):
    def test_one_column(self):
        snow = Piece("snow", ("Snow falls",), "It fell all {up night} long.", 1)
        page = page_of((1, 16, 8), "times", 1, [("hats", 1, "Hats")], [[snow]], 4)
        self.assertEqual(page.lines(), [
            "times     page 1",
            "================",
            "   Snow falls   ",
            "It    fell   all",
            "NIGHT long.     ",
            "                ",
            "                ",
            "+--------------+",
            "| Hats         |",
            "+--------------+",
        ])

    def test_two_columns(self):
        form = (2, 16, 10)
        page = page_of(form, "sun", 12, [("hats", 1, "Hats"), ("all", 2, "a\nb")], [
            [piece("a", 2), piece("b", 1)], [piece("c", 9)],
        ], 2)
        self.assertEqual(page.lines(), [
            "sun                         page 12",
            "===================================",
            "      aaaa       |       cccc      ",
            "a                | c               ",
            "a                | c               ",
            "+---------------------------------+",
            "| a                               |",
            "| b                               |",
            "+---------------------------------+",
            "                 | +--------------+",
            "                 | | Hats         |",
            "                 | +--------------+",
        ])
        self.assertEqual(page.places(), [("hats", 1, 7, 3), ("all", 0, 3, 4)])
        self.assertEqual(page.missed(), [])
        self.assertEqual(page.stands(), [[("a", 0, 1, 2)], [("c", 0, 1, 2)]])
        self.assertEqual(page.gone(), [["b"], []])

    def test_no_pieces_and_no_advertisements(self):
        page = page_of((3, 16, 6), "sun", 1, [], [[], [], []])
        self.assertEqual(page.lines()[2:], [" " * 16 + " | " + " " * 16 + " | " + " " * 16] * 6)
        self.assertEqual(page.stands(), [[], [], []])
        self.assertEqual(page.gone(), [[], [], []])
        self.assertEqual(page.places(), [])
        self.assertEqual(page.missed(), [])

    def test_title_and_number(self):
        for title in ("a", "abcdefgh"):
            for number in (1, 9, 10, 99):
                for form in ((1, 16, 6), (6, 40, 60), (2, 17, 7)):
                    row = page_of(form, title, number, [], [[]] * form[0]).lines()[0]
                    self.assertEqual(len(row), form[0] * form[1] + 3 * (form[0] - 1))
                    self.assertTrue(row.startswith(title + " "))
                    self.assertTrue(row.endswith(" page " + str(number)))
                    self.assertEqual(row.split(), [title, "page", str(number)])
        self.assertEqual(page_of((1, 16, 6), "abcdefgh", 99, [], [[]]).lines()[0], "abcdefgh page 99")

    def test_a_row_of_equal_signs(self):
        for columns in range(1, 7):
            for wide in (16, 25, 40):
                page = page_of((columns, wide, 6), "sun", 1, [], [[]] * columns)
                self.assertEqual(page.lines()[1], "=" * (columns * wide + 3 * (columns - 1)))
                self.assertEqual({len(row) for row in page.lines()}, {columns * wide + 3 * (columns - 1)})

    def test_the_least_and_the_greatest_form(self):
        page = page_of((1, 16, 6), "sun", 1, [ad("a", 1, 2)], [[piece("a", 9)]])
        self.assertEqual(len(page), 8)
        self.assertEqual(page.stands(), [[("a", 0, 1, 3)]])
        page = page_of((6, 40, 60), "sun", 99, [ad("a", 6, 50)], [[piece(name, 60)] for name in "abcdef"])
        self.assertEqual(len(page), 62)
        self.assertEqual(page.lines()[2], " | ".join((name * 4).center(40) for name in "abcdef"))
        self.assertEqual(page.stands(), [[(name, 0, 1, 9)] for name in "abcdef"])

    def test_rows_below_an_advertisement_over_several_columns_are_not_free(self):
        form = (2, 16, 12)
        page = page_of(form, "sun", 1, [ad("a", 1, 4), ad("b", 2, 2)], [[piece("c", 20)], [piece("d", 20)]])
        self.assertEqual(page.places(), [("a", 1, 8, 4), ("b", 0, 6, 2)])
        self.assertEqual(page.stands(), [[("c", 0, 1, 5)], [("d", 0, 1, 5)]])
        self.assertEqual([row[:19] for row in page.lines()[10:]], [" " * 17 + "| "] * 4)

    def test_missed_advertisements(self):
        form = (2, 16, 12)
        page = page_of(form, "sun", 1, [ad("a", 1, 9), ad("b", 2, 8), ad("c", 1, 3)], [[piece("c", 20)]] * 2)
        self.assertEqual(page.missed(), ["a", "c"])
        self.assertEqual(page.places(), [("b", 0, 4, 8)])
        page = page_of(form, "sun", 1, [ad("a", 1, 9), ad("b", 2, 8), ad("a", 1, 3)], [[piece("c", 20)]] * 2)
        self.assertEqual(page.missed(), ["a", "a"])
        self.assertEqual(page.stands(), [[("c", 0, 1, 3)]] * 2)

    def test_keep(self):
        form = (1, 16, 10)
        for keep in range(7):
            page = page_of(form, "sun", 1, [ad("a", 1, 10 - keep)], [[piece("c", 20, 0)]], keep)
            self.assertEqual(page.missed(), [])
            self.assertEqual(page.stands(), [[("c", 0, 1, keep - 1)] if keep else []])
            self.assertEqual(page_of(form, "sun", 1, [ad("a", 1, 11 - keep)], [[]], keep).missed(), ["a"])
        self.assertEqual(page_of(form, "sun", 1, [ad("a", 1, 6)], [[]]).missed(), [])
        self.assertEqual(page_of(form, "sun", 1, [ad("a", 1, 7)], [[]]).missed(), ["a"])

    def test_no_free_rows(self):
        page = page_of((1, 16, 6), "sun", 1, [ad("a", 1, 6)], [[piece("c", 3), piece("d", 3, 2, 9)]], 0)
        self.assertEqual(page.lines()[2:], ad_block((1, 16, 6), ad("a", 1, 6)).lines())
        self.assertEqual(page.stands(), [[]])
        self.assertEqual(page.gone(), [["d", "c"]])

    def test_advertisements_of_like_names_and_unlike_spans(self):
        # The first of these is missed; the place is that of the other one, over both columns.
        form = (2, 16, 10)
        page = page_of(form, "sun", 1, [ad("a", 1, 9), ad("a", 2, 3)], [[piece("c", 20)]] * 2)
        self.assertEqual(page.stands(), [[("c", 0, 1, 6)]] * 2)
        self.assertEqual((page.places(), page.missed()), ([("a", 0, 7, 3)], ["a"]))

    def test_eight_advertisements_and_eight_pieces(self):
        form = (4, 20, 60)
        ads = [ad(name, span, 5) for name, span in zip("abcdefgh", (1, 2, 3, 4, 1, 2, 3, 1))]
        columns = [[piece(name, 3, 1, rank) for name, rank in zip("abcdefgh", (1, 2, 3, 4, 5, 6, 7, 8))]] * 4
        page = page_of(form, "sun", 7, ads, columns)
        self.assertEqual(page.lines(), by_signs(form, "sun", 7, ads, columns, 4))

    def test_held_against_signs_put_down_one_by_one(self):
        chance = random.Random(15)
        for _turn in range(150):
            form = (chance.randrange(1, 7), chance.choice([16, 25, 40]), chance.randrange(6, 61))
            ads = [
                ad(chance.choice("abc"), chance.randrange(1, form[0] + 1), chance.randrange(2, 14))
                for _ad in range(chance.randrange(9))
            ]
            columns = [
                [
                    piece(chance.choice("abcd"), chance.randrange(20), chance.randrange(6), chance.randrange(1, 10))
                    for _piece in range(chance.randrange(9))
                ]
                for _column in range(form[0])
            ]
            keep = chance.randrange(7)
            page = page_of(form, "sun", 42, ads, columns, keep)
            self.assertEqual(page.lines(), by_signs(form, "sun", 42, ads, columns, keep))
            self.assertEqual((page.places(), page.missed()), stand_ads(form, ads, keep))
            # Each advertisement stands on the page or is told left out.
            told = sorted([place[0] for place in page.places()] + page.missed())
            self.assertEqual(told, sorted(one[0] for one in ads))
            tops = tops_of(form, ads, keep)
            set_ones = [column_of(pieces, form[1], form[2] - top) for pieces, top in zip(columns, tops)]
            self.assertEqual(page.stands(), [one[1] for one in set_ones])
            self.assertEqual(page.gone(), [one[2] for one in set_ones])


class Asked(unittest.TestCase):
    def page(self, number=3, body=5):
        columns = [[piece("c", body)], [piece("d"), piece("e", 9, 9)]]
        return page_of((2, 16, 12), "sun", number, [ad("a", 1, 4), ad("b", 2, 9)], columns)

    def test_told(self):
        page = self.page()
        self.assertIs(type(page), Page)
        self.assertEqual(page.number, 3)
        self.assertEqual(page.mark(), mark_of(page.lines()))
        self.assertIs(type(page.mark()), int)
        self.assertEqual(len(page), 14)
        self.assertEqual(str(page), "\n".join(page.lines()))
        self.assertEqual(repr(page), "Page(3, " + mark_text(mark_of(page.lines())) + ")")
        for told in (page.lines(), page.places(), page.missed(), page.stands(), page.gone()):
            self.assertIs(type(told), list)
        for told in (*page.stands(), *page.gone()):
            self.assertIs(type(told), list)
        for told in [*page.places(), *page.stands()[0], *page.stands()[1]]:
            self.assertIs(type(told), tuple)

    def test_shown_with_noughts_ahead(self):
        for number in range(1, 100):
            page = page_of((1, 16, 6), "sun", number, [], [[]])
            self.assertEqual(repr(page), f"Page({number}, {page.mark():04x})")
        self.assertTrue(any(page_of((1, 16, 6), "sun", number, [], [[]]).mark() < 4096 for number in range(1, 100)))

    def test_alike(self):
        self.assertTrue(self.page() == self.page())
        self.assertFalse(self.page() != self.page())
        self.assertFalse(self.page() == self.page(4))
        self.assertFalse(self.page() == self.page(3, 1))
        self.assertTrue(self.page() != self.page(3, 1))

    def test_alike_by_numbers_and_rows_alone(self):
        # Other names, the same rows: so are the same ads of other names.
        one = page_of((1, 16, 10), "sun", 1, [("a", 1, "x")], [[Piece("a", ("A",), "b")]])
        ads = [("b", 1, "x"), ("c", 1, "\n".join("x" * 20))]
        other = page_of((1, 16, 10), "sun", 1, ads, [[Piece("b", ("A",), "b")]])
        self.assertNotEqual(one.stands(), other.stands())
        self.assertNotEqual(one.missed(), other.missed())
        self.assertTrue(one == other)

    def test_like_rows_and_unlike_numbers(self):
        # The rows tell the number, so no two pages are made so; but the number is asked for by itself, too.
        one, other = self.page(), self.page()
        other.number = 4
        self.assertEqual(one.lines(), other.lines())
        self.assertFalse(one == other)
        self.assertTrue(one != other)

    def test_other_things(self):
        page = self.page()
        for thing in [*NO_TEXTS, *ODD_TEXTS, str(page), page.lines(), tuple(page.lines()), page.mark(), repr(page)]:
            self.assertIs(page == thing, False)
            self.assertIs(thing == page, False)
            self.assertIs(page != thing, True)

    def test_what_is_told_is_the_asker_s_own(self):
        page = self.page()
        before = (page.lines(), page.places(), page.missed(), page.stands(), page.gone(), page.mark(), str(page))
        for told in (page.lines(), page.places(), page.missed(), page.stands(), page.gone()):
            told.append("x")
            told[0] = "y"
        for told in [*page.stands(), *page.gone()]:
            told.append("x")
            told.reverse()
        after = (page.lines(), page.places(), page.missed(), page.stands(), page.gone(), page.mark(), str(page))
        self.assertEqual(after, before)
        self.assertEqual(page, self.page())

    def test_what_is_handed_in_stays_and_what_is_kept_is_a_copy(self):
        form = (2, 16, 12)
        ads = [ad("a", 1, 4), ad("b", 2, 9)]
        columns = [[piece("c")], [piece("d"), piece("e", 9, 9)]]
        before = (copy.deepcopy(ads), copy.deepcopy(columns))
        page = page_of(form, "sun", 1, ads, columns)
        self.assertEqual((ads, columns), before)
        shown = (str(page), page.places(), page.missed(), page.stands(), page.gone())
        columns[0].clear()
        columns[1][0].name = "x"
        columns.clear()
        ads.clear()
        self.assertEqual((str(page), page.places(), page.missed(), page.stands(), page.gone()), shown)

    def test_each_method_is_the_class_s_own(self):
        for name in ("lines", "places", "missed", "stands", "gone", "mark", "__eq__", "__len__", "__str__", "__repr__"):
            self.assertIn(name, vars(Page))


class Refused(unittest.TestCase):
    def test_not_as_many_columns(self):
        for many in range(1, 7):
            for columns in range(8):
                if columns != many:
                    met = refusal(Unlike, page_of, (many, 16, 6), "sun", 1, [], [[]] * columns)
                    self.assertEqual((met.one, met.other), (columns, many))

    def test_ahead_of_no_fit(self):
        wrong = Piece("a", ("x" * 50,), "b")
        met = refusal(Unlike, page_of, (2, 16, 6), "sun", 1, [], [[wrong]])
        self.assertEqual((met.one, met.other), (1, 2))
        met = refusal(Unlike, page_of, (1, 16, 6), "sun", 1, [], [[wrong], []])
        self.assertEqual((met.one, met.other), (2, 1))

    def test_no_fit_column_by_column(self):
        def high(words):
            return Piece("a", ("abcdefghi " * words,), "b", 1, 9, 1)

        form = (3, 16, 6)
        fits = piece("c")
        self.assertEqual(refusal(NoFit, page_of, form, "sun", 1, [], [[fits], [fits, high(3)], [high(2)]]).rows, 3)
        self.assertEqual(refusal(NoFit, page_of, form, "sun", 1, [], [[fits], [high(2), high(3)], [high(4)]]).rows, 2)
        self.assertEqual(refusal(NoFit, page_of, form, "sun", 1, [], [[], [fits], [high(4)]]).rows, 4)
        # Also where it would leave, or has no row at all.
        self.assertEqual(refusal(NoFit, page_of, form, "sun", 1, [ad("a", 3, 6)], [[], [], [high(4)]], 0).rows, 4)
