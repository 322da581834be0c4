"""What is done in a night (points 2, 3 and 28)."""

import unittest

from nightpaper.errors import (
    NoCopy, NoDeed, NoFit, NoPlace, NoRoom, NotLocked, Taken, TooMany, Twice, Unknown,
)
from nightpaper.latenews import late_in
from nightpaper.nights import Night
from nightpaper.pages import page_of
from nightpaper.pieces import Piece
from tests.nightly import FORM, LOCKS, all_told, night_of, piece, rows
from tests.things import refusal

EARLY = [*LOCKS, ("edition", "early")]


def names_of(page):
    """The names of what stands in each column."""
    return [[row[0] for row in column] for column in page.stands()]


class Refused(unittest.TestCase):
    """A deed is refused, and leaves the night as it was."""

    def refused(self, wanted, night, deed, pages=4):
        before = all_told(night, pages, (0, 5))
        met = refusal(wanted, night.enter, 5, deed)
        self.assertEqual(all_told(night, pages, (0, 5)), before)
        return met

    def no_place(self, night, deed, number, many, pages=4):
        met = self.refused(NoPlace, night, deed, pages)
        self.assertEqual((met.number, met.many), (number, many))


class Made(unittest.TestCase):
    def test_without_entries(self):
        night = Night("times", FORM)
        self.assertEqual(night.entries(), [])
        for number in (1, 2, 3, 4):
            self.assertEqual(night.page(0, number), page_of(FORM, "times", number, [], [[], []]))
        self.assertEqual((night.versions(0), night.editions(0), night.good(0)), ((0, 0, 0, 0), {}, {}))
        self.assertEqual((night.lacking(0), night.dealt(0), night.white(0)), ([], [], (0, 0, 0, 0)))

    def test_what_is_left_out(self):
        night = night_of(("book", "hats", 4, 1, rows(6)))
        self.assertEqual(night.page(0, 4).missed(), [])
        night.enter(0, ("book", "caps", 4, 2, rows(1)))
        self.assertEqual(night.page(0, 4).missed(), ["caps"])
        self.assertEqual(refusal(NoPlace, night.page, 0, 5).many, 4)
        for stay in (4, 5):
            night = night_of(piece("a", rows(5), 5, 5), ("fill", 1, 0, ("a",)), piece("b", rows(5)), form=(1, 16, 12),
                             **({} if stay == 5 else {"stay": 4}))
            if stay == 4:
                night.enter(0, ("late", 1, ("b",)))
            else:
                self.assertEqual(refusal(NoRoom, night.enter, 0, ("late", 1, ("b",))).lack, 1)

    def test_by_places_and_by_names(self):
        deeds = [piece("a", rows(5), 5, 9), ("fill", 16, 0, ("a",)), ("book", "hats", 16, 1, rows(9))]
        told = []
        nights = [
            Night("sun", (1, 20, 12), 16, 0, 9), Night(stay=9, keep=0, pages=16, form=(1, 20, 12), title="sun"),
        ]
        for night in nights:
            for deed in deeds:
                night.enter(deed=deed, hour=3)
            told.append(all_told(night, 16))
            self.assertEqual(night.page(number=16, hour=3).missed(), [])
            self.assertEqual(night.page(3, 16).gone(), [["a"]])
        self.assertEqual(told[0], told[1])

    def test_each_is_none(self):
        night = Night("times", FORM)
        self.assertIsNone(night.enter(0, ("lock", 1)))
        self.assertIsNone(night.out(0))

    def test_a_form_that_is_changed_later(self):
        deed = piece("a")
        night = night_of(deed, ("fill", 1, 0, ("a",)))
        told = night.entries()
        told[0] = None
        told.clear()
        self.assertEqual(night.entries(), [(0, deed), (0, ("fill", 1, 0, ("a",)))])


class Pieces(Refused):
    def test_a_piece_comes(self):
        night = night_of(piece("fire", "The {up mill} burns.", 0, 9, ("Fire at the mill tonight", "Fire")))
        night.enter(0, ("fill", 1, 1, ("fire",)))
        wanted = Piece("fire", ("Fire at the mill tonight", "Fire"), "The {up mill} burns.", 0, 9)
        self.assertEqual(night.page(0, 1), page_of(FORM, "times", 1, [], [[], [wanted]]))
        self.assertEqual(night.page(0, 1).stands(), [[], [("fire", 0, 2, 1)]])

    def test_most_two_and_not_spaced(self):
        night = Night("times", FORM)
        night.enter(0, piece("a", heads=("abcdefghijklmnop abcdefghijklmnop",)))
        self.assertEqual(self.refused(NoFit, night, piece("b", heads=("abcdefghi " * 3,))).rows, 3)

    def test_in_the_place_of_one_of_this_name(self):
        night = night_of(piece("a", "old"), piece("b", "old"), ("fill", 1, 0, ("b", "a")), ("late", 2, ()))
        night.enter(0, piece("c", "old"))
        night.enter(0, ("late", 2, ("c",)))
        night.enter(1, piece("a", "new", 0, 9))
        night.enter(1, piece("c", "new"))
        self.assertEqual(night.entries()[-1], (1, piece("c", "new")))
        old = [Piece(name, (name,), "old", 1, 5) for name in "abc"]
        new = [Piece("a", ("a",), "new", 0, 9), Piece("c", ("c",), "new", 1, 5)]
        self.assertEqual(night.page(0, 1), page_of(FORM, "times", 1, [], [[old[1], old[0]], []]))
        self.assertEqual(night.page(1, 1), page_of(FORM, "times", 1, [], [[old[1], new[0]], []]))
        self.assertEqual(night.page(0, 2), late_in(FORM, "times", 2, [], [[], []], old[2])[1])
        self.assertEqual(night.page(1, 2), late_in(FORM, "times", 2, [], [[], []], new[1])[1])

    def test_a_late_one_comes_again_and_has_no_room(self):
        night = night_of(piece("a", rows(5)), ("late", 1, ("a",)), ("lock", 1), form=(1, 16, 12))
        night.enter(1, piece("a", rows(20)))
        self.assertEqual(refusal(NoRoom, night.page, 1, 1).lack, 9)
        self.assertEqual(self.refused(NoRoom, night, ("lock", 1)).lack, 9)
        self.assertEqual(night.versions(5), (1, 0, 0, 0))
        self.assertEqual(night.plate(5, 1, 1), night.page(0, 1))

    def test_no_copy(self):
        night = night_of(piece("a"), ("fill", 1, 0, ("a",)))
        self.assertEqual(self.refused(NoCopy, night, piece("a", "{us}")).at, 2)
        self.assertEqual(self.refused(NoCopy, night, piece("b", "abc}")).at, 3)
        self.assertEqual(self.refused(NoCopy, night, piece("b", "{up")).at, 3)
        self.refused(Unknown, night, ("fill", 1, 1, ("b",)))

    def test_no_fit_of_all_heads(self):
        night = night_of(piece("a"), ("fill", 1, 0, ("a",)))
        self.assertIsNone(self.refused(NoFit, night, piece("a", heads=("x" * 17,))).rows)
        self.assertEqual(self.refused(NoFit, night, piece("b", heads=("abcdefghi " * 4, "abcdefghi " * 3))).rows, 3)
        night.enter(0, piece("b", heads=("x" * 17, "abcdefghi " * 3, "x" * 16)))

    def test_no_copy_ahead_of_no_fit(self):
        self.assertEqual(self.refused(NoCopy, Night("times", FORM), piece("a", "}", heads=("x" * 17,))).at, 0)

    def test_the_width_is_the_form_s(self):
        for wide in (16, 40):
            night = Night("times", (1, wide, 12))
            night.enter(0, piece("a", heads=("x" * wide,)))
            self.refused(NoFit, night, piece("b", heads=("x" * (wide + 1),)))

    def test_beyond_the_bounds(self):
        night = night_of(piece("a", "long " * 2000, 10 ** 5000, 5, ("x " + " " * 500,)), ("fill", 1, 0, ("a",)))
        self.assertEqual(night.page(0, 1).gone(), [["a"], []])
        night.enter(0, piece("a", "x", 10 ** 5000))
        self.assertEqual(night.page(0, 1).stands(), [[("a", 0, 1, 1)], []])


class Advertisements(Refused):
    def test_in_the_order_in_which_they_were_booked(self):
        ads = [("b", 1, "x"), ("a", 2, "y"), ("c", 1, "z")]
        night = night_of(*[("book", name, 2, span, words) for name, span, words in ads])
        self.assertEqual(night.page(0, 2), page_of(FORM, "times", 2, ads, [[], []]))
        self.assertEqual([place[0] for place in night.page(0, 2).places()] + night.page(0, 2).missed(), ["b", "a", "c"])
        self.assertEqual(night.page(0, 1).places(), [])

    def test_each_stands_or_is_told_left_out(self):
        ads = [(name, 2, rows(3)) for name in "abcd"]
        night = night_of(*[("book", name, 3, span, words) for name, span, words in ads])
        page = night.page(0, 3)
        self.assertEqual(([place[0] for place in page.places()], page.missed()), (["a"], ["b", "c", "d"]))

    def test_taken(self):
        night = night_of(("book", "hats", 1, 1, "x"))
        for deed in (("book", "hats", 1, 1, "x"), ("book", "hats", 2, 2, "y"), ("book", "hats", 99, 99, "y")):
            self.assertEqual(self.refused(Taken, night, deed).name, "hats")

    def test_no_place_of_the_page_then_of_the_span(self):
        night = night_of(("book", "hats", 1, 1, "x"))
        for page in (0, -1, 5, 10 ** 5000, -10 ** 5000):
            self.no_place(night, ("book", "caps", page, 1, "x"), page, 4)
            self.no_place(night, ("book", "caps", page, 99, "x"), page, 4)
        for span in (3, 10 ** 5000):
            self.no_place(night, ("book", "caps", 4, span, "x"), span, 2)
        night.enter(0, ("book", "caps", 4, 2, "x"))

    def test_pages_of_greater_papers(self):
        for pages in (8, 12, 16):
            night = night_of(("book", "hats", pages, 1, "x"), pages=pages)
            self.assertEqual(night.page(0, pages).places()[0][0], "hats")
            self.no_place(night, ("book", "caps", pages + 1, 1, "x"), pages + 1, pages, pages)

    def test_unbooked_and_booked_again(self):
        night = night_of(("book", "a", 1, 1, "x"), ("book", "b", 1, 1, "y"), ("unbook", "a"))
        self.assertEqual([place[0] for place in night.page(0, 1).places()], ["b"])
        self.assertEqual(self.refused(Unknown, night, ("unbook", "a")).name, "a")
        night.enter(1, ("book", "a", 1, 2, "z"))
        self.assertEqual(night.page(1, 1), page_of(FORM, "times", 1, [("b", 1, "y"), ("a", 2, "z")], [[], []]))
        night.enter(2, ("unbook", "b"))
        self.assertEqual(night.page(2, 1), page_of(FORM, "times", 1, [("a", 2, "z")], [[], []]))

    def test_unknown(self):
        night = night_of(piece("a"), *EARLY)
        for name in ("a", "early", "hats"):
            self.assertEqual(self.refused(Unknown, night, ("unbook", name)).name, name)

    def test_the_name_of_a_piece_or_an_edition_is_free(self):
        night = night_of(piece("a"), *EARLY)
        night.enter(5, ("book", "a", 1, 1, "x"))
        night.enter(5, ("book", "early", 1, 1, "x"))

    def test_booked_where_the_late_piece_has_no_room_then(self):
        night = night_of(piece("a", rows(9)), ("late", 1, ("a",)), form=(1, 16, 12))
        night.enter(1, ("book", "hats", 1, 1, rows(3)))
        self.assertEqual(refusal(NoRoom, night.page, 1, 1).lack, 3)
        self.assertEqual(self.refused(NoRoom, night, ("lock", 1)).lack, 3)
        night.enter(2, ("unbook", "hats"))
        night.enter(2, ("lock", 1))


class Filled(Refused):
    pieces = [piece(name) for name in "abcdefgh"]

    def test_in_the_place_of_those_that_it_had(self):
        night = night_of(*self.pieces, ("fill", 1, 1, ("c", "a")), form=(2, 16, 60))
        self.assertEqual(names_of(night.page(0, 1)), [[], ["c", "a"]])
        night.enter(0, ("fill", 1, 1, ("a", "b")))
        self.assertEqual(names_of(night.page(0, 1)), [[], ["a", "b"]])
        night.enter(0, ("fill", 1, 0, ("c",)))
        self.assertEqual(names_of(night.page(0, 1)), [["c"], ["a", "b"]])
        night.enter(0, ("fill", 1, 1, ()))
        self.assertEqual(names_of(night.page(0, 1)), [["c"], []])
        night.enter(0, ("fill", 2, 0, tuple("hgfedba")))
        self.assertEqual(names_of(night.page(0, 2)), [list("hgfedba"), []])
        self.assertEqual(names_of(night.page(0, 1)), [["c"], []])

    def test_no_place_of_the_page_then_of_the_column(self):
        night = night_of(*self.pieces)
        for page in (0, -1, 5, 10 ** 5000):
            self.no_place(night, ("fill", page, 0, ("a",)), page, 4)
            self.no_place(night, ("fill", page, 9, ("z", "z")), page, 4)
        for column in (-1, -2, 2, 10 ** 5000):
            self.no_place(night, ("fill", 1, column, ("a",)), column, 2)
            self.no_place(night, ("fill", 1, column, ("z",)), column, 2)
            self.no_place(night, ("fill", 1, column, ()), column, 2)

    def test_unknown_of_the_first_ahead_of_twice(self):
        night = night_of(*self.pieces, ("fill", 1, 1, ("a",)), ("book", "hats", 1, 1, "x"))
        self.assertEqual(self.refused(Unknown, night, ("fill", 1, 0, ("a", "b", "b", "y", "z"))).name, "y")
        self.assertEqual(self.refused(Unknown, night, ("fill", 1, 0, ("hats",))).name, "hats")

    def test_twice_among_these(self):
        night = night_of(*self.pieces)
        self.assertEqual(self.refused(Twice, night, ("fill", 1, 0, ("a", "b", "c", "b", "a"))).name, "b")
        self.assertEqual(self.refused(Twice, night, ("fill", 1, 0, ("a", "a"))).name, "a")

    def test_twice_in_another_column_of_any_page(self):
        night = night_of(*self.pieces, ("fill", 1, 0, ("a",)), ("fill", 4, 1, ("b",)), form=(2, 16, 60))
        self.assertEqual(self.refused(Twice, night, ("fill", 1, 1, ("c", "a", "b"))).name, "a")
        self.assertEqual(self.refused(Twice, night, ("fill", 4, 0, ("c", "b", "a"))).name, "b")
        self.assertEqual(self.refused(Twice, night, ("fill", 4, 1, ("b", "a"))).name, "a")
        night.enter(5, ("fill", 1, 0, ("c", "a")))
        night.enter(5, ("fill", 1, 0, ()))
        night.enter(5, ("fill", 4, 1, ("b", "a")))

    def test_twice_of_the_first_for_whatever_reason(self):
        night = night_of(*self.pieces, ("fill", 1, 0, ("a",)), ("late", 2, ("b",)), form=(2, 16, 60))
        self.assertEqual(self.refused(Twice, night, ("fill", 3, 0, ("c", "c", "a", "b"))).name, "c")
        self.assertEqual(self.refused(Twice, night, ("fill", 3, 0, ("c", "a", "c", "b"))).name, "a")
        self.assertEqual(self.refused(Twice, night, ("fill", 3, 0, ("c", "b", "a", "c"))).name, "b")

    def test_one_that_left_stands_there_too(self):
        night = night_of(*self.pieces, piece("z", rows(9), 9, 9), ("fill", 1, 0, ("a", "z")))
        self.assertEqual(night.page(0, 1).gone(), [["z"], []])
        self.assertEqual(self.refused(Twice, night, ("fill", 2, 1, ("z",))).name, "z")
        self.assertEqual(self.refused(Twice, night, ("late", 2, ("z",))).name, "z")
        night.enter(5, ("fill", 1, 0, ("z", "a")))

    def test_twice_of_one_that_is_late_on_any(self):
        night = night_of(*self.pieces, ("late", 2, ("a",)))
        for page in (1, 2, 3, 4):
            for column in (0, 1):
                self.assertEqual(self.refused(Twice, night, ("fill", page, column, ("b", "a"))).name, "a")
        night.enter(5, ("late", 2, ("b",)))
        night.enter(5, ("fill", 2, 0, ("a",)))

    def test_eight_names_and_nine(self):
        night = night_of(*self.pieces, piece("i"), ("fill", 1, 0, tuple("abcdefgh")), form=(1, 16, 60))
        self.assertEqual(names_of(night.page(0, 1)), [list("abcdefgh")])
        self.refused(NoDeed, night, ("fill", 1, 0, tuple("abcdefghi")))


class Late(Refused):
    def test_from_now_on(self):
        night = night_of(piece("a", "a b c"), piece("b", rows(4)), ("fill", 1, 0, ("b",)), ("late", 1, ("a",)))
        news, other = Piece("a", ("a",), "a b c", 1, 5), Piece("b", ("b",), rows(4), 1, 5)
        self.assertEqual(night.page(0, 1), late_in(FORM, "times", 1, [], [[other], []], news)[1])
        self.assertEqual(names_of(night.page(0, 1)), [["a", "b"], []])
        night.enter(1, ("late", 1, ()))
        self.assertEqual(names_of(night.page(1, 1)), [["b"], []])
        self.assertEqual(names_of(night.page(0, 1)), [["a", "b"], []])

    def test_none_where_there_was_none(self):
        night = night_of(("late", 4, ()))
        self.assertEqual(night.page(0, 4), page_of(FORM, "times", 4, [], [[], []]))

    def test_another_one_in_its_place(self):
        night = night_of(piece("a"), piece("b"), ("late", 1, ("a",)), ("late", 1, ("b",)), ("late", 2, ("a",)))
        self.assertEqual([names_of(night.page(0, page))[0] for page in (1, 2)], [["b"], ["a"]])
        night.enter(0, ("late", 1, ("b",)))

    def test_no_place(self):
        night = night_of(piece("a"))
        for page in (0, -1, 5, 10 ** 5000):
            self.no_place(night, ("late", page, ("a",)), page, 4)
            self.no_place(night, ("late", page, ("z",)), page, 4)
            self.no_place(night, ("late", page, ()), page, 4)

    def test_unknown(self):
        night = night_of(piece("a"), ("book", "hats", 1, 1, "x"))
        self.assertEqual(self.refused(Unknown, night, ("late", 1, ("b",))).name, "b")
        self.assertEqual(self.refused(Unknown, night, ("late", 1, ("hats",))).name, "hats")

    def test_twice(self):
        night = night_of(piece("a"), piece("b"), ("fill", 3, 1, ("a",)), ("late", 2, ("b",)))
        for page in (1, 2, 3, 4):
            self.assertEqual(self.refused(Twice, night, ("late", page, ("a",))).name, "a")
        for page in (1, 3, 4):
            self.assertEqual(self.refused(Twice, night, ("late", page, ("b",))).name, "b")
        night.enter(5, ("late", 2, ("b",)))

    def test_no_room(self):
        night = night_of(piece("a", rows(9), 9), piece("b", rows(10)), ("fill", 1, 0, ("a",)), form=(1, 16, 20))
        self.assertEqual(self.refused(NoRoom, night, ("late", 1, ("b",))).lack, 2)
        night.enter(0, piece("b", rows(8)))
        night.enter(0, ("late", 1, ("b",)))
        night = night_of(piece("a", heads=("ab abcdefghijklmno",)), ("book", "x", 1, 2, rows(8)), keep=2)
        self.assertEqual(self.refused(NoRoom, night, ("late", 1, ("a",))).lack, 1)
        night = night_of(piece("a", rows(3), heads=("ab abcdefghijklmno",)), ("book", "x", 1, 2, rows(8)), keep=2,
                         form=(3, 16, 12))
        night.enter(0, ("late", 1, ("a",)))

    def test_no_room_with_no_lack(self):
        # No column alone can spare the heading and a row of the body.
        night = night_of(piece("a", rows(1), heads=("ab abcdefghijklmno",)), ("book", "x", 1, 2, rows(8)), keep=2)
        self.assertEqual(self.refused(NoRoom, night, ("late", 1, ("a",))).lack, 0)

    def test_twice_ahead_of_no_room(self):
        night = night_of(piece("a", rows(90)), ("fill", 2, 0, ("a",)))
        self.assertEqual(self.refused(Twice, night, ("late", 1, ("a",))).name, "a")

    def test_stay_and_keep_are_the_night_s(self):
        for stay in range(10):
            night = night_of(piece("a", rows(5), 5, 4), ("fill", 1, 0, ("a",)), piece("b", rows(9)), form=(1, 16, 12),
                             stay=stay)
            if stay < 4:
                night.enter(0, ("late", 1, ("b",)))
                self.assertEqual(night.page(0, 1).gone(), [["a"]])
            else:
                self.assertEqual(self.refused(NoRoom, night, ("late", 1, ("b",))).lack, 5)

    def test_a_late_one_that_had_room_in_another_one_s_place(self):
        night = night_of(piece("a"), piece("b", rows(90)), ("late", 1, ("a",)))
        self.assertEqual(self.refused(NoRoom, night, ("late", 1, ("b",))).lack, 67)
        self.assertEqual(names_of(night.page(5, 1)), [["a"], []])


class Locked(Refused):
    def test_versions(self):
        night = night_of(piece("a"), ("fill", 1, 0, ("a",)), ("lock", 1), ("fill", 1, 0, ()), ("lock", 1))
        self.assertEqual(night.versions(0), (2, 0, 0, 0))
        self.assertEqual(names_of(night.plate(0, 1, 1)), [["a"], []])
        self.assertEqual(names_of(night.plate(0, 1, 2)), [[], []])
        night.enter(1, ("lock", 4))
        night.enter(1, ("lock", 1))
        self.assertEqual(night.versions(1), (3, 0, 0, 1))

    def test_a_plate_stays_as_it_was_locked(self):
        deeds = [piece("a", "old"), piece("b", "old"), ("fill", 1, 0, ("a",)), ("book", "hats", 1, 1, "old"),
                 ("late", 1, ("b",)), ("lock", 1)]
        plate = night_of(*deeds[:-1]).page(0, 1)
        night = night_of(*deeds)
        for deed in (piece("a", "new"), piece("b", "new"), ("unbook", "hats"), ("book", "caps", 1, 2, "new"),
                     ("late", 1, ()), ("fill", 1, 1, ("b",)), ("fill", 1, 0, ()), ("late", 1, ("a",)), ("lock", 1)):
            night.enter(0, deed)
            self.assertEqual(night.plate(0, 1, 1), plate)
            self.assertEqual(night.plate(0, 1, 1).places(), plate.places())
        self.assertEqual(night.plate(0, 1, 2), night.page(0, 1))
        self.assertNotEqual(night.plate(0, 1, 2), plate)

    def test_no_place(self):
        night = night_of(("lock", 1))
        for page in (0, -1, 5, 10 ** 5000, -10 ** 5000):
            self.no_place(night, ("lock", page), page, 4)

    def test_no_room(self):
        night = night_of(piece("a", rows(9)), ("late", 1, ("a",)), piece("b", rows(9), 3, 1), form=(1, 16, 12))
        night.enter(1, ("fill", 1, 0, ("b",)))
        self.assertEqual(self.refused(NoRoom, night, ("lock", 1)).lack, 3)
        self.assertEqual(refusal(NoRoom, night.page, 1, 1).lack, 3)
        night.enter(1, ("lock", 2))
        night.enter(2, ("late", 1, ()))
        night.enter(2, ("lock", 1))
        self.assertEqual(night.plate(2, 1, 1), night.page(2, 1))


class Editions(Refused):
    def test_the_last_version_of_each_page(self):
        night = night_of(*LOCKS, ("lock", 3), ("edition", "early"), ("lock", 1), ("edition", "late"), ("lock", 1))
        self.assertEqual(night.editions(0), {"early": (1, 1, 2, 1), "late": (2, 1, 2, 1)})

    def test_editions_may_be_alike(self):
        night = night_of(*EARLY, ("edition", "late"))
        self.assertEqual(night.editions(0), {"early": (1, 1, 1, 1), "late": (1, 1, 1, 1)})

    def test_taken(self):
        night = night_of(*EARLY)
        self.assertEqual(self.refused(Taken, night, ("edition", "early")).name, "early")

    def test_not_locked(self):
        night = Night("times", FORM)
        self.assertEqual(self.refused(NotLocked, night, ("edition", "early")).number, 1)
        for page, first in ((2, 1), (1, 3), (4, 3)):
            night.enter(0, ("lock", page))
            self.assertEqual(self.refused(NotLocked, night, ("edition", "early")).number, first)
        night.enter(0, ("lock", 3))
        night.enter(0, ("edition", "early"))

    def test_greater_papers(self):
        night = Night("times", FORM, 16)
        for page in range(1, 17):
            self.assertEqual(self.refused(NotLocked, night, ("edition", "early"), 16).number, page)
            night.enter(0, ("lock", page))
        night.enter(0, ("edition", "early"))
        self.assertEqual(night.editions(0), {"early": (1,) * 16})


class Runs(Refused):
    def test_sheets_of_an_edition_s_kind(self):
        night = night_of(*EARLY, ("lock", 1), ("edition", "late"), ("run", "hoe", "early", 0, 10, 3))
        self.assertEqual(night.good(0), {(0, (1, 1, 1, 1)): 7})
        night.enter(1, ("run", "cox", "late", 0, 5, 5))
        self.assertEqual(night.good(1), {(0, (1, 1, 1, 1)): 7, (0, (1, 2, 1, 1)): 0})
        night.enter(2, ("run", "hoe", "early", 0, 4, 0))
        self.assertEqual(night.good(2)[(0, (1, 1, 1, 1))], 11)

    def test_one_pulled(self):
        for spoiled in (0, 1):
            night = night_of(*EARLY, ("run", "hoe", "early", 0, 1, spoiled))
            self.assertEqual(night.good(0), {(0, (1, 1, 1, 1)): 1 - spoiled})

    def test_none_pulled(self):
        night = night_of(*EARLY, ("run", "hoe", "early", 0, 0, 0))
        self.assertEqual((night.good(0), night.white(0)), ({}, (0, 0, 0, 0)))

    def test_unknown_ahead_of_no_place_ahead_of_too_many(self):
        night = night_of(piece("a"), ("book", "hats", 1, 1, "x"), *EARLY)
        for name in ("late", "a", "hats", "hoe"):
            self.assertEqual(self.refused(Unknown, night, ("run", "hoe", name, 9, 1, 2)).name, name)
        for sheet in (-1, 1, 10 ** 5000, -10 ** 5000):
            self.no_place(night, ("run", "hoe", "early", sheet, 1, 2), sheet, 1)
        met = self.refused(TooMany, night, ("run", "hoe", "early", 0, 1, 2))
        self.assertEqual((met.asked, met.most), (2, 1))
        met = self.refused(TooMany, night, ("run", "hoe", "early", 0, 0, 1))
        self.assertEqual((met.asked, met.most), (1, 0))

    def test_sheets_of_greater_papers(self):
        for pages in (8, 12, 16):
            locks = [("lock", page) for page in range(1, pages + 1)]
            night = night_of(*locks, ("lock", 2), ("edition", "early"), pages=pages)
            for sheet in range(pages // 4):
                night.enter(0, ("run", "hoe", "early", sheet, 5 + sheet, 0))
            versions = {sheet: (1, 1, 1, 1) for sheet in range(pages // 4)}
            versions[0] = (1, 1, 2, 1)
            self.assertEqual(night.good(0), {(sheet, versions[sheet]): 5 + sheet for sheet in versions})
            self.no_place(night, ("run", "hoe", "early", pages // 4, 1, 0), pages // 4, pages // 4, pages)

    def test_great_counts(self):
        night = night_of(*EARLY, ("run", "hoe", "early", 0, 10 ** 5000, 10 ** 4999))
        self.assertEqual(night.good(0), {(0, (1, 1, 1, 1)): 9 * 10 ** 4999})


class Wants(Refused):
    def test_in_the_place_of_what_it_wanted(self):
        night = night_of(*EARLY, ("run", "hoe", "early", 0, 99, 0), ("want", "york", "ann", "early", 5))
        self.assertEqual(night.dealt(0), [("early", "york", "ann", 5)])
        night.enter(0, ("want", "york", "ann", "early", 7))
        self.assertEqual(night.dealt(0), [("early", "york", "ann", 7)])
        night.enter(0, ("want", "york", "ann", "early", 0))
        self.assertEqual(night.dealt(0), [])

    def test_each_of_its_own(self):
        night = night_of(*EARLY, ("edition", "late"), ("run", "hoe", "early", 0, 99, 0))
        for town, seller, edition, copies in (
            ("york", "ann", "early", 1), ("york", "bob", "early", 2), ("hull", "ann", "early", 3),
            ("york", "ann", "late", 4),
        ):
            night.enter(0, ("want", town, seller, edition, copies))
        self.assertEqual(night.dealt(0), [
            ("early", "hull", "ann", 3), ("early", "york", "ann", 1), ("early", "york", "bob", 2),
            ("late", "york", "ann", 4),
        ])

    def test_unknown(self):
        night = night_of(piece("a"), *EARLY)
        for name in ("late", "a", "york"):
            self.assertEqual(self.refused(Unknown, night, ("want", "york", "ann", name, 0)).name, name)


class NoDeeds(Refused):
    def test_of_anything(self):
        night = night_of(piece("a"), ("fill", 1, 0, ("a",)), *EARLY)
        for thing in (None, (), [], {}, "", "lock 1", ["lock", 1], ("lock",), ("lock", True), ("lock", 1, 1), 5, True,
                      ("locks", 1), (["lock"], 1), ({}, 1), (None,), ("fill", 1, 0, ["a"]), ("late", 1, ("a", "b")),
                      ("book", "x", 1, 0, "x"), piece("a", None), piece("a", rank=0), piece("a", rank=10)):
            self.refused(NoDeed, night, thing)
