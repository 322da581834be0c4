"""Sheets, kinds, and copies gathered of them (points 2, 3, 17, 18 and 19)."""

import copy
import random
import unittest

from nightpaper.errors import NoPlace, Unknown
from nightpaper.sheets import gathered, kinds_of, lacks, rests, sheet_pages
from tests.things import refusal

# Two editions that share their inner sheet, and one that shares none.
FIRST = (1, 1, 1, 1, 1, 1, 1, 1)
SECOND = (2, 1, 1, 1, 1, 1, 1, 1)
THIRD = (3, 3, 3, 3, 3, 3, 3, 3)
EDITIONS = {"first": FIRST, "second": SECOND, "third": THIRD}
OUTER = (0, (1, 1, 1, 1))
OUTER_SECOND = (0, (1, 2, 1, 1))
INNER = (1, (1, 1, 1, 1))
OUTER_THIRD = (0, (3, 3, 3, 3))
INNER_THIRD = (1, (3, 3, 3, 3))


def copy_by_copy(editions, good, wants):
    """What is gathered and the rests, copy by copy, each of the sheets of its four pages."""
    left = dict(good)
    told = []
    for name, copies in wants:
        many = 0
        kinds = [kind for kind in kinds_of(editions[name])]
        while many < copies and all(left.get(kind, 0) > 0 for kind in kinds):
            for kind in kinds:
                left[kind] -= 1
            many += 1
        told.append((name, many))
    return told, sorted((kind, many) for kind, many in left.items() if many)


class Pages(unittest.TestCase):
    def test_each_sheet(self):
        self.assertEqual(sheet_pages(4, 0), (4, 1, 2, 3))
        self.assertEqual([sheet_pages(8, sheet) for sheet in (0, 1)], [(8, 1, 2, 7), (6, 3, 4, 5)])
        self.assertEqual(
            [sheet_pages(12, sheet) for sheet in (0, 1, 2)], [(12, 1, 2, 11), (10, 3, 4, 9), (8, 5, 6, 7)])
        self.assertEqual(
            [sheet_pages(16, sheet) for sheet in (0, 1, 2, 3)],
            [(16, 1, 2, 15), (14, 3, 4, 13), (12, 5, 6, 11), (10, 7, 8, 9)])

    def test_each_page_is_on_one_sheet(self):
        for pages in (4, 8, 12, 16):
            told = [page for sheet in range(pages // 4) for page in sheet_pages(pages, sheet)]
            self.assertEqual(sorted(told), list(range(1, pages + 1)))

    def test_a_tuple(self):
        self.assertIs(type(sheet_pages(8, 1)), tuple)
        self.assertEqual([type(page) for page in sheet_pages(8, 1)], [int] * 4)

    def test_no_sheet(self):
        for pages in (4, 8, 12, 16):
            for number in (-10 ** 30, -1000, -pages, -2, -1, pages // 4, pages // 4 + 1, pages, 1000, 10 ** 30):
                met = refusal(NoPlace, sheet_pages, pages, number)
                self.assertEqual((met.number, met.many), (number, pages // 4))
        self.assertEqual(str(refusal(NoPlace, sheet_pages, 8, -1)), "-1 of 2")
        self.assertIsInstance(refusal(NoPlace, sheet_pages, 8, 2), IndexError)


class Kinds(unittest.TestCase):
    def test_by_sheets(self):
        self.assertEqual(kinds_of((1, 2, 3, 4)), [(0, (4, 1, 2, 3))])
        self.assertEqual(kinds_of(tuple(range(101, 117))), [
            (0, (116, 101, 102, 115)), (1, (114, 103, 104, 113)), (2, (112, 105, 106, 111)), (3, (110, 107, 108, 109)),
        ])
        for pages in (4, 8, 12, 16):
            edition = tuple(7 * page + 1 for page in range(pages))
            told = kinds_of(edition)
            self.assertEqual([kind[0] for kind in told], list(range(pages // 4)))
            for sheet, versions in told:
                self.assertEqual(versions, tuple(edition[page - 1] for page in sheet_pages(pages, sheet)))

    def test_plain_ones(self):
        told = kinds_of(FIRST)
        self.assertIs(type(told), list)
        self.assertEqual({type(kind) for kind in told}, {tuple})
        self.assertEqual({type(kind[1]) for kind in told}, {tuple})
        told.clear()
        self.assertEqual(len(kinds_of(FIRST)), 2)

    def test_shared(self):
        self.assertEqual(kinds_of(FIRST), [OUTER, INNER])
        self.assertEqual(kinds_of(SECOND), [OUTER_SECOND, INNER])
        self.assertEqual(kinds_of(THIRD), [OUTER_THIRD, INNER_THIRD])
        # The same versions on another sheet are another kind.
        self.assertNotEqual(OUTER, INNER)


class Lacks(unittest.TestCase):
    def test_nothing(self):
        self.assertEqual(lacks(EDITIONS, {}, []), [])
        self.assertEqual(lacks({}, {}, []), [])
        self.assertEqual(lacks(EDITIONS, {}, [("first", 0)]), [])
        self.assertEqual(lacks(EDITIONS, {OUTER: 5, INNER: 5}, [("first", 5)]), [])

    def test_of_one_want(self):
        self.assertEqual(lacks(EDITIONS, {}, [("first", 5)]), [(OUTER, 5), (INNER, 5)])
        self.assertEqual(lacks(EDITIONS, {OUTER: 4}, [("first", 5)]), [(OUTER, 1), (INNER, 5)])
        self.assertEqual(lacks(EDITIONS, {OUTER: 5, INNER: 4}, [("first", 5)]), [(INNER, 1)])
        self.assertEqual(lacks(EDITIONS, {OUTER: 6, INNER: 0}, [("first", 5)]), [(INNER, 5)])

    def test_for_all_together(self):
        wants = [("first", 5), ("second", 3)]
        self.assertEqual(lacks(EDITIONS, {}, wants), [(OUTER, 5), (OUTER_SECOND, 3), (INNER, 8)])
        self.assertEqual(lacks(EDITIONS, {INNER: 7, OUTER: 9}, wants), [(OUTER_SECOND, 3), (INNER, 1)])
        self.assertEqual(lacks(EDITIONS, {INNER: 7, OUTER: 9}, wants[::-1]), [(OUTER_SECOND, 3), (INNER, 1)])

    def test_several_of_one_name(self):
        self.assertEqual(
            lacks(EDITIONS, {OUTER: 3, INNER: 20}, [("first", 2), ("first", 0), ("first", 4)]), [(OUTER, 3)])

    def test_what_lacks_for_one_is_not_made_good_by_another(self):
        good = {OUTER: 100, INNER: 100, OUTER_THIRD: 1}
        self.assertEqual(
            lacks(EDITIONS, good, [("first", 1), ("third", 2)]), [(OUTER_THIRD, 1), (INNER_THIRD, 2)])

    def test_rising(self):
        editions = {"b": tuple(range(16, 0, -1)), "a": tuple(range(1, 17)), "c": (12,) * 16}
        told = lacks(editions, {}, [("c", 1), ("b", 2), ("a", 3)])
        self.assertEqual(told, sorted(told))
        self.assertEqual(len(told), 12)


class Gathered(unittest.TestCase):
    def told(self, copies, left, good, wants, editions=None):
        editions = EDITIONS if editions is None else editions
        self.assertEqual(gathered(editions, good, wants), copies)
        self.assertEqual(rests(editions, good, wants), left)

    def test_nothing(self):
        self.told([], [], {}, [])
        self.told([], [], {}, [], {})
        self.told([("first", 0)], [], {}, [("first", 0)])
        self.told([("first", 0)], [], {}, [("first", 7)])

    def test_as_many_as_it_asks(self):
        self.told([("first", 5)], [(OUTER, 1), (INNER, 2)], {OUTER: 6, INNER: 7}, [("first", 5)])
        self.told([("first", 5)], [], {OUTER: 5, INNER: 5}, [("first", 5)])
        self.told([("first", 0)], [(OUTER, 5), (INNER, 5)], {OUTER: 5, INNER: 5}, [("first", 0)])

    def test_as_many_as_the_sheets_let(self):
        self.told([("first", 4)], [(INNER, 1)], {OUTER: 4, INNER: 5}, [("first", 9)])
        self.told([("first", 0)], [(INNER, 5)], {INNER: 5}, [("first", 9)])
        self.told([("first", 0)], [(OUTER, 5)], {INNER: 0, OUTER: 5}, [("first", 9)])

    def test_in_their_order(self):
        good = {OUTER: 10, OUTER_SECOND: 10, INNER: 12}
        self.told([("first", 10), ("second", 2)], [(OUTER_SECOND, 8)], good, [("first", 10), ("second", 5)])
        self.told([("second", 5), ("first", 7)], [(OUTER, 3), (OUTER_SECOND, 5)], good, [("second", 5), ("first", 10)])

    def test_several_of_one_name(self):
        good = {OUTER: 10, OUTER_SECOND: 10, INNER: 12}
        self.told(
            [("first", 4), ("second", 3), ("first", 5), ("first", 0)], [(OUTER, 1), (OUTER_SECOND, 7)],
            good, [("first", 4), ("second", 3), ("first", 20), ("first", 2)])

    def test_one_that_can_not_be_gathered_hinders_no_other_one(self):
        good = {OUTER: 3, INNER: 3}
        self.told([("third", 0), ("first", 3)], [], good, [("third", 5), ("first", 5)])

    def test_kinds_that_no_edition_has(self):
        stray = (3, (9, 9, 9, 9))
        good = {stray: 8, OUTER: 2, (0, (7, 7, 7, 7)): 1, (0, (8, 8, 8, 8)): 0}
        self.told([("first", 0)], [(OUTER, 2), ((0, (7, 7, 7, 7)), 1), (stray, 8)], good, [("first", 5)])
        self.assertEqual(rests({}, good, []), [(OUTER, 2), ((0, (7, 7, 7, 7)), 1), (stray, 8)])

    def test_a_sheet_goes_to_whichever_edition_has_its_pages(self):
        # All inner sheets were pulled for one of them; the other one's copies are gathered of them, too.
        self.told([("second", 6)], [(INNER, 1)], {OUTER_SECOND: 6, INNER: 7}, [("second", 6)])

    def test_great_counts(self):
        good = {OUTER: 10 ** 6, OUTER_SECOND: 10 ** 6, INNER: 10 ** 6}
        wants = [("first", 10 ** 6 - 1), ("second", 10 ** 6)]
        self.told(
            [("first", 10 ** 6 - 1), ("second", 1)], [(OUTER, 1), (OUTER_SECOND, 10 ** 6 - 1)], good, wants)
        self.assertEqual(lacks(EDITIONS, good, wants), [(INNER, 10 ** 6 - 1)])
        # Reckoned, not copy by copy.
        far = 10 ** 18
        self.told([("first", far)], [(OUTER, 1)], {OUTER: far + 1, INNER: far}, [("first", far + 5)])

    def test_held_against_copy_by_copy(self):
        chance = random.Random(19)
        for _turn in range(400):
            pages = chance.choice([4, 8, 12, 16])
            names = ["a", "b", "c", "d"][:chance.randrange(1, 5)]
            editions = {name: tuple(chance.randrange(1, 3) for _page in range(pages)) for name in names}
            if chance.random() < 0.5 and len(names) > 1:
                editions["b"] = editions["a"][:-1] + (3,)
            good = {}
            for name in names:
                for kind in kinds_of(editions[name]):
                    if chance.random() < 0.8:
                        good[kind] = chance.randrange(12)
            wants = [(chance.choice(names), chance.randrange(8)) for _want in range(chance.randrange(6))]
            told, left = copy_by_copy(editions, good, wants)
            self.told(told, left, good, wants, editions)
            asked = {}
            for name, copies in wants:
                for kind in kinds_of(editions[name]):
                    asked[kind] = asked.get(kind, 0) + copies
            short = sorted((kind, asked[kind] - good.get(kind, 0)) for kind in asked if asked[kind] > good.get(kind, 0))
            self.assertEqual(lacks(editions, good, wants), short)
            # The sheets that are good are those in copies and the rests.
            in_copies = sum(copies for _name, copies in told) * pages // 4
            self.assertEqual(sum(good.values()), in_copies + sum(many for _kind, many in left))

    def test_plain_lists_and_tuples_of_the_asker(self):
        good = {OUTER: 6, INNER: 7}
        wants = [("first", 5), ("third", 1)]
        before = copy.deepcopy((EDITIONS, good, wants))
        for call in (lacks, gathered, rests):
            told = call(EDITIONS, good, wants)
            kept = list(told)
            self.assertIs(type(told), list)
            self.assertEqual({type(one) for one in told}, {tuple})
            told.append("x")
            told[0] = "y"
            self.assertEqual(call(EDITIONS, good, wants), kept)
            self.assertEqual((EDITIONS, good, wants), before)


class Refused(unittest.TestCase):
    def test_the_first_want_s_name(self):
        good = {OUTER: 6, INNER: 7}
        for call in (lacks, gathered, rests):
            self.assertEqual(refusal(Unknown, call, EDITIONS, good, [("fourth", 1)]).name, "fourth")
            wants = [("first", 1), ("zeta", 0), ("alpha", 3), ("first", 5)]
            self.assertEqual(refusal(Unknown, call, EDITIONS, good, wants).name, "zeta")
            self.assertEqual(refusal(Unknown, call, {}, {}, [("first", 0)]).name, "first")
            self.assertEqual(str(refusal(Unknown, call, {}, {}, [("first", 0)])), "no first")
        self.assertEqual(good, {OUTER: 6, INNER: 7})
