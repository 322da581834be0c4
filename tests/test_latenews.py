"""Late news (points 2, 3 and 16)."""

import copy
import itertools
import random
import unittest

from nightpaper.ads import stand_ads
from nightpaper.columns import column_of, needed
from nightpaper.errors import NoFit, NoRoom, Unlike
from nightpaper.heads import first_head
from nightpaper.latenews import late_in, spare
from nightpaper.markup import plain
from nightpaper.pages import Page, page_of
from nightpaper.pieces import Piece
from nightpaper.setting import set_rows
from tests.things import refusal


def piece(name, body=5, least=2, rank=5):
    """A piece of a heading of one row and of so many rows of body."""
    return Piece(name, (name * 4,), "\n".join(name * body), least, rank)


def ad(name, span, high):
    """An advertisement whose block has so many rows."""
    return (name, span, "\n".join("x" * (high - 2)))


def late(rows, head=1):
    """A late piece of so many rows in all, so many of them its heading's; rank and least tell nothing of it."""
    heading = " ".join(["abcdefghijkl"] * head)
    return Piece("late", (heading,), "\n".join("lmnopqrstuvwxyz"[at % 15] for at in range(rows - head)), 0, 9, 4)


def free_of(form, ads, keep):
    """The free rows of each column."""
    tops = [0] * form[0]
    for number, one in enumerate(ads):
        before = len(stand_ads(form, ads[:number], keep)[0])
        places = stand_ads(form, ads[:number + 1], keep)[0]
        if len(places) > before:
            for at in range(places[-1][1], places[-1][1] + one[1]):
                tops[at] = form[2] - places[-1][2]
    return [form[2] - top for top in tops]


def side(page, form, column):
    """The deep rows of one column of a page."""
    at = column * (form[1] + 3)
    return [row[at:at + form[1]] for row in page.lines()[2:]]


def plain_choice(spared, rows, first):
    """All choices that hold the rows, tried one after the other."""
    held = []
    for many in range(1, len(spared) + 1):
        for choice in itertools.combinations(range(len(spared)), many):
            left = rows
            taken = []
            for column in choice:
                share = 0
                while share < spared[column] and left:
                    share += 1
                    left -= 1
                taken.append(share)
            if not left and 0 not in taken and taken[0] >= first:
                held.append((many, choice, taken))
    return min(held)[1:] if held else None


class Spare(unittest.TestCase):
    def test_no_pieces(self):
        self.assertEqual(spare((3, 16, 20), [], [[], [], []]), [20, 20, 20])
        self.assertEqual(spare((3, 16, 20), [ad("a", 2, 5)], [[], [], []]), [20, 15, 15])

    def test_needed_rows_and_one_more(self):
        columns = [[piece("a")], [piece("a"), piece("b")], [piece("a", 9, 0), piece("b", 1, 7), piece("c", 0)]]
        self.assertEqual(spare((3, 16, 20), [], columns), [16, 12, 13])

    def test_each_stay(self):
        columns = [[piece("a", 9, 1, rank) for rank in range(1, 9)], [piece("a", 9, 1, 9)]]
        for stay in range(10):
            told = spare((2, 16, 60), [], columns, stay)
            self.assertEqual(told, [60 - 3 * min(stay, 8), 57 if stay == 9 else 60])

    def test_stay_left_out_is_five_and_keep_four(self):
        columns = [[piece("a", 9, 1, 5), piece("b", 9, 1, 6)]]
        self.assertEqual(spare((1, 16, 20), [], columns), [17])
        self.assertEqual(spare((1, 16, 20), [ad("a", 1, 16)], [[]]), [4])
        self.assertEqual(spare((1, 16, 20), [ad("a", 1, 17)], [[]]), [20])
        self.assertEqual(spare((1, 16, 20), [ad("a", 1, 17)], [[]], keep=3), [3])
        self.assertEqual(spare((1, 16, 20), [ad("a", 1, 20)], [[]], 5, 0), [0])

    def test_below_nought_is_told_as_nought(self):
        self.assertEqual(spare((1, 16, 6), [], [[piece("a", 9, 4)]]), [0])
        self.assertEqual(spare((1, 16, 6), [], [[piece("a", 9, 3)]]), [1])
        self.assertEqual(spare((1, 16, 6), [], [[piece("a", 9, 5)]]), [0])
        self.assertEqual(spare((1, 16, 6), [], [[piece("a", 99, 60)]]), [0])
        self.assertEqual(spare((1, 16, 6), [], [[piece("a", 99, 60, 6)]]), [6])

    def test_refused(self):
        wrong = Piece("a", ("x" * 50,), "b")
        met = refusal(Unlike, spare, (2, 16, 6), [], [[wrong]])
        self.assertEqual((met.one, met.other), (1, 2))
        self.assertIsNone(refusal(NoFit, spare, (1, 16, 6), [], [[wrong]]).rows)

    def test_no_fit_whatever_the_rank(self):
        def high(words, rank):
            return Piece("a", ("abcdefghi " * words,), "b", 1, rank, 1)

        for stay in range(10):
            columns = [[piece("a")], [piece("a"), high(3, 9)], [high(2, 1)]]
            self.assertEqual(refusal(NoFit, spare, (3, 16, 6), [], columns, stay).rows, 3)

    def test_a_list_of_whole_numbers(self):
        told = spare((2, 16, 20), [], [[piece("a")], []])
        self.assertIs(type(told), list)
        self.assertEqual([type(one) for one in told], [int, int])
        told.append(3)
        self.assertEqual(spare((2, 16, 20), [], [[piece("a")], []]), [16, 20])


class InOneColumn(unittest.TestCase):
    def test_above_the_pieces(self):
        form = (2, 16, 10)
        news = Piece("fire", ("Fire at the mill",), "It {up burns} and burns all the night.")
        told = late_in(form, "sun", 1, [], [[piece("a", 9)], [piece("b", 9)]], news)
        self.assertIs(type(told), tuple)
        self.assertIs(type(told[0]), tuple)
        self.assertIs(type(told[1]), Page)
        choice, page = told
        self.assertEqual(choice, (0,))
        self.assertEqual(page.lines(), [
            "sun                          page 1",
            "===================================",
            "Fire at the mill |       bbbb      ",
            "It   BURNS   and | b               ",
            "burns   all  the | b               ",
            "night.           | b               ",
            "---------------- | b               ",
            "      aaaa       | b               ",
            "a                | b               ",
            "a                | b               ",
            "a                | b               ",
            "a                | b               ",
        ])
        self.assertEqual(page.stands(), [[("fire", 0, 1, 3), ("a", 5, 1, 4)], [("b", 0, 1, 9)]])
        self.assertEqual(page.gone(), [[], []])
        self.assertEqual((page.number, len(page)), (1, 12))

    def test_just_what_can_be_spared(self):
        form = (1, 16, 10)
        columns = [[piece("a", 9, 2)]]
        choice, page = late_in(form, "sun", 1, [], columns, late(6))
        self.assertEqual((choice, page.stands()), ((0,), [[("late", 0, 1, 5), ("a", 7, 1, 2)]]))
        self.assertEqual(refusal(NoRoom, late_in, form, "sun", 1, [], columns, late(7)).lack, 1)
        self.assertEqual(refusal(NoRoom, late_in, form, "sun", 1, [], columns, late(17)).lack, 11)

    def test_pieces_that_leave_below_it(self):
        form = (1, 16, 12)
        columns = [[piece("a", 9, 2, 6), piece("b", 9, 2, 5), piece("c", 9, 2, 9)]]
        choice, page = late_in(form, "sun", 1, [], columns, late(8))
        self.assertEqual(page.stands(), [[("late", 0, 1, 7), ("b", 9, 1, 2)]])
        self.assertEqual(page.gone(), [["c", "a"]])
        self.assertEqual(side(page, form, 0)[8], "-" * 16)

    def test_no_row_of_signs_where_nothing_stands_below(self):
        form = (1, 16, 12)
        columns = [[piece("a", 9, 2, 6)]]
        for rows, stands in ((8, True), (9, False), (10, False), (11, False), (12, False)):
            page = late_in(form, "sun", 1, [], columns, late(rows))[1]
            self.assertEqual(page.gone(), [[] if stands else ["a"]])
            self.assertEqual(len(page.stands()[0]), 2 if stands else 1)
            self.assertEqual("-" * 16 in page.lines()[2:], stands)
            if not stands:
                self.assertEqual(side(page, form, 0)[rows:], [" " * 16] * (12 - rows))

    def test_a_column_without_pieces(self):
        form = (1, 16, 12)
        page = late_in(form, "sun", 1, [], [[]], late(5))[1]
        self.assertEqual(page.stands(), [[("late", 0, 1, 4)]])
        self.assertEqual(page.gone(), [[]])
        self.assertEqual(side(page, form, 0)[5:], [" " * 16] * 7)

    def test_all_of_the_room(self):
        form = (1, 16, 6)
        page = late_in(form, "sun", 1, [], [[piece("a", 1, 1, 9)]], late(6))[1]
        self.assertEqual((page.stands(), page.gone()), ([[("late", 0, 1, 5)]], [["a"]]))
        self.assertEqual(refusal(NoRoom, late_in, form, "sun", 1, [], [[]], late(7)).lack, 1)

    def test_above_advertisements(self):
        form = (1, 16, 12)
        ads = [("hats", 1, "Hats"), ("caps", 1, "\n".join("x" * 9))]
        page = late_in(form, "sun", 1, ads, [[piece("a", 9)]], late(3))[1]
        self.assertEqual(page.places(), [("hats", 0, 9, 3)])
        self.assertEqual(page.missed(), ["caps"])
        self.assertEqual(page.stands(), [[("late", 0, 1, 2), ("a", 4, 1, 4)]])
        self.assertEqual(side(page, form, 0)[9:], ["+--------------+", "| Hats         |", "+--------------+"])

    def test_least_and_rank_of_the_late_one_tell_nothing(self):
        form = (1, 16, 12)
        for least, rank in ((0, 1), (50, 9), (3, 5)):
            news = Piece("late", ("Late",), "a\nb\nc\nd", least, rank)
            page = late_in(form, "sun", 1, [], [[piece("a", 9)]], news, 9)[1]
            self.assertEqual(page.stands(), [[("late", 0, 1, 4), ("a", 6, 1, 5)]])

    def test_a_body_without_words(self):
        form = (1, 16, 6)
        news = Piece("late", ("Late news",), " \n ")
        choice, page = late_in(form, "sun", 1, [], [[piece("a", 9, 3)]], news)
        self.assertEqual((choice, page.stands()), ((0,), [[("late", 0, 1, 0), ("a", 2, 1, 3)]]))
        self.assertEqual(refusal(NoRoom, late_in, form, "sun", 1, [], [[piece("a", 9, 4)]], news).lack, 1)


class InSeveralColumns(unittest.TestCase):
    def test_in_two(self):
        form = (2, 16, 8)
        columns = [[piece("a", 9, 2)], [piece("b", 9, 2)]]
        choice, page = late_in(form, "sun", 1, [], columns, late(6))
        self.assertEqual(choice, (0, 1))
        self.assertEqual(page.stands(), [
            [("late", 0, 1, 3), ("a", 5, 1, 2)], [("late", 0, 0, 2), ("b", 3, 1, 4)],
        ])
        self.assertEqual(side(page, form, 0), [
            row.ljust(16) for row in ["  abcdefghijkl", "l", "m", "n", "-" * 16, "      aaaa", "a", "a"]])
        self.assertEqual(side(page, form, 1), [
            row.ljust(16) for row in ["o", "p", "-" * 16, "      bbbb", "b", "b", "b", "b"]])

    def test_as_few_as_can_be(self):
        # By 4, 4, 6 rows: what one column holds stands in that one, though it isn't the first.
        form = (3, 16, 8)
        columns = [[piece("a", 9, 2)], [piece("b", 9, 2)], [piece("c", 9, 0)]]
        self.assertEqual(spare(form, [], columns), [4, 4, 6])
        self.assertEqual(
            [late_in(form, "sun", 1, [], columns, late(rows))[0] for rows in range(2, 15)],
            [(0,), (0,), (0,), (2,), (2,), (0, 1), (0, 1), (0, 2), (0, 2)] + [(0, 1, 2)] * 4,
        )
        self.assertEqual(refusal(NoRoom, late_in, form, "sun", 1, [], columns, late(15)).lack, 1)

    def test_of_several_choices_the_first(self):
        form = (4, 16, 8)
        columns = [[piece("a", 9, 7)], [], [], []]
        self.assertEqual(spare(form, [], columns), [0, 8, 8, 8])
        self.assertEqual(late_in(form, "sun", 1, [], columns, late(8))[0], (1,))
        self.assertEqual(late_in(form, "sun", 1, [], columns, late(9))[0], (1, 2))
        self.assertEqual(late_in(form, "sun", 1, [], columns, late(24))[0], (1, 2, 3))

    def test_the_first_takes_all_of_the_heading_and_a_row_of_the_body(self):
        form = (2, 16, 8)
        for head in (1, 2, 3):
            # The first column can spare head rows alone: too few, though both together have room.
            columns = [[piece("a", 9, 6 - head)], [piece("b", 9, 4)]]
            self.assertEqual(spare(form, [], columns), [head, 2])
            met = refusal(NoRoom, late_in, form, "sun", 1, [], columns, late(head + 2, head))
            self.assertEqual(met.lack, 0)
            self.assertEqual(
                refusal(NoRoom, late_in, form, "sun", 1, [], columns, late(head + 4, head)).lack, 2)
            columns = [[piece("a", 9, 5 - head)], [piece("b", 9, 4)]]
            choice, page = late_in(form, "sun", 1, [], columns, late(head + 3, head))
            self.assertEqual(choice, (0, 1))
            self.assertEqual([one[0] for one in page.stands()], [("late", 0, head, 1), ("late", 0, 0, 2)])

    def test_a_heading_without_a_body_is_not_parted(self):
        form = (2, 16, 8)
        columns = [[piece("a", 9, 5)], [piece("b", 9, 4)]]
        self.assertEqual(spare(form, [], columns), [1, 2])
        self.assertEqual(late_in(form, "sun", 1, [], columns, late(2, 2))[0], (1,))
        self.assertEqual(refusal(NoRoom, late_in, form, "sun", 1, [], columns, late(3, 3)).lack, 0)

    def test_columns_that_can_spare_nothing_are_passed_by(self):
        form = (3, 16, 8)
        columns = [[piece("a", 9, 2)], [piece("b", 9, 9)], [piece("c", 9, 2)]]
        choice, page = late_in(form, "sun", 1, [], columns, late(8))
        self.assertEqual(choice, (0, 2))
        self.assertEqual(page.gone(), [[], ["b"], []])
        self.assertEqual(side(page, form, 1), [" " * 16] * 8)

    def test_all_other_columns_are_as_they_were(self):
        form = (3, 16, 20)
        ads = [ad("a", 2, 4), ad("b", 1, 5)]
        columns = [[piece("a", 9, 2), piece("b", 30)], [piece("c", 40), piece("d", 40, 2, 9)], [piece("e", 1)]]
        was = page_of(form, "sun", 7, ads, columns)
        for rows in range(2, 40):
            try:
                choice, page = late_in(form, "sun", 7, ads, columns, late(rows))
            except NoRoom:
                continue
            self.assertEqual(page.lines()[:2], was.lines()[:2])
            self.assertEqual((page.places(), page.missed()), (was.places(), was.missed()))
            for column in range(3):
                if column not in choice:
                    self.assertEqual(side(page, form, column), side(was, form, column))
                    self.assertEqual(page.stands()[column], was.stands()[column])
                    self.assertEqual(page.gone()[column], was.gone()[column])

    def test_each_stay(self):
        form = (2, 16, 10)
        columns = [[piece("a", 9, 4, 3)], [piece("b", 9, 4, 7)]]
        told = [late_in(form, "sun", 1, [], columns, late(8), stay)[0] for stay in range(10)]
        self.assertEqual(told, [(0,)] * 3 + [(1,)] * 4 + [(0, 1)] * 3)
        # Left out it is 5.
        self.assertEqual(late_in(form, "sun", 1, [], columns, late(8))[0], (1,))

    def test_held_against_all_choices(self):
        chance = random.Random(16)
        held = 0
        for _turn in range(300):
            form = (chance.randrange(1, 7), chance.choice([16, 25, 40]), chance.randrange(6, 40))
            ads = [
                ad(chance.choice("abc"), chance.randrange(1, form[0] + 1), chance.randrange(2, 10))
                for _ad in range(chance.randrange(6))
            ]
            columns = [
                [
                    piece(chance.choice("abcd"), chance.randrange(20), chance.randrange(6), chance.randrange(1, 10))
                    for _piece in range(chance.randrange(5))
                ]
                for _column in range(form[0])
            ]
            stay, keep = chance.randrange(10), chance.randrange(7)
            head = chance.randrange(1, 4)
            news = late(head + chance.randrange(chance.choice([4, 20, 60])), head)
            if self.held(form, ads, columns, news, stay, keep):
                held += 1
        self.assertGreater(held, 100)
        self.assertLess(held, 290)

    def held(self, form, ads, columns, news, stay, keep):
        wide = form[1]
        free = free_of(form, ads, keep)
        spared = spare(form, ads, columns, stay, keep)
        for column, pieces in enumerate(columns):
            fixed = [needed(one, wide) + 1 for one in pieces if one.rank <= stay]
            self.assertEqual(spared[column], max(0, free[column] - sum(fixed)))
        head = first_head(news.heads, wide, news.most, news.spaced)[1]
        body = set_rows(plain(news.body), wide)
        wanted = plain_choice(spared, len(head + body), len(head) + bool(body))
        asked = (form, "sun", 3, ads, columns, news, stay, keep)
        if wanted is None:
            met = refusal(NoRoom, late_in, *asked)
            self.assertEqual(met.lack, max(0, len(head + body) - sum(spared)))
            return False
        choice, page = late_in(*asked)
        self.assertEqual(choice, wanted[0])
        rows = head + body
        for column, share in zip(*wanted):
            room = max(0, free[column] - share - 1)
            block, stands, gone = column_of(columns[column], wide, room)
            told = rows[:share] + (["-" * wide] + block.lines() if stands else [])
            told += [" " * wide] * (free[column] - len(told))
            self.assertEqual(side(page, form, column)[:free[column]], told)
            first = ("late", 0, len(head), share - len(head)) if column == choice[0] else ("late", 0, 0, share)
            below = [(name, row + share + 1, high, many) for name, row, high, many in stands]
            self.assertEqual(page.stands()[column], [first] + below)
            self.assertEqual(page.gone()[column], gone)
            # Those whose rank is at most stay have not left for it.
            was_gone = column_of(columns[column], wide, free[column])[2]
            light = [one.name for one in columns[column] if one.rank > stay]
            self.assertTrue(all(name in light or name in was_gone for name in gone))
            rows = rows[share:]
        self.assertEqual(rows, [])
        was = page_of(form, "sun", 3, ads, columns, keep)
        for column in range(form[0]):
            if column not in choice:
                self.assertEqual(side(page, form, column), side(was, form, column))
                self.assertEqual(page.stands()[column], was.stands()[column])
                self.assertEqual(page.gone()[column], was.gone()[column])
            self.assertEqual(side(page, form, column)[free[column]:], side(was, form, column)[free[column]:])
        return True


class Refused(unittest.TestCase):
    def setUp(self):
        self.wrong = Piece("a", ("abcdefghi " * 4,), "b", 1, 9, 1)
        self.too_high = Piece("late", ("abcdefghi " * 3,), "b", 1, 1, 2)
        self.too_long = Piece("late", ("x" * 17, "y" * 40), "b")

    def test_unlike_first(self):
        for news in (self.too_high, late(3), late(300)):
            met = refusal(Unlike, late_in, (2, 16, 8), "sun", 1, [], [[self.wrong]], news)
            self.assertEqual((met.one, met.other), (1, 2))
            met = refusal(Unlike, late_in, (1, 16, 8), "sun", 1, [], [[], []], news)
            self.assertEqual((met.one, met.other), (2, 1))

    def test_no_fit_of_the_late_one_next(self):
        self.assertEqual(refusal(NoFit, late_in, (1, 16, 8), "sun", 1, [], [[self.wrong]], self.too_high).rows, 3)
        self.assertIsNone(refusal(NoFit, late_in, (1, 16, 8), "sun", 1, [], [[self.wrong]], self.too_long).rows)

    def test_then_no_fit_of_the_columns(self):
        for news in (late(3), late(300)):
            met = refusal(NoFit, late_in, (2, 16, 8), "sun", 1, [], [[], [self.wrong]], news)
            self.assertEqual(met.rows, 4)

    def test_then_no_room(self):
        self.assertEqual(refusal(NoRoom, late_in, (2, 16, 8), "sun", 1, [], [[], []], late(17)).lack, 1)
        self.assertEqual(refusal(NoRoom, late_in, (2, 16, 8), "sun", 1, [], [[], []], late(300)).lack, 284)

    def test_nothing_handed_in_is_changed(self):
        form = (2, 16, 12)
        ads = [ad("a", 1, 4), ad("b", 2, 9)]
        columns = [[piece("c")], [piece("d"), piece("e", 9, 9)]]
        news = late(5)
        before = copy.deepcopy((ads, columns, news))
        choice, page = late_in(form, "sun", 1, ads, columns, news)
        spare(form, ads, columns)
        refusal(NoRoom, late_in, form, "sun", 1, ads, columns, late(300))
        self.assertEqual((ads, columns, news), before)
        shown = (str(page), page.stands(), page.gone())
        page.stands()[0].clear()
        columns[0].clear()
        columns.clear()
        ads.clear()
        self.assertEqual((str(page), page.stands(), page.gone()), shown)
