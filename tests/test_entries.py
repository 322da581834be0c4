"""Entries by hours, late ones too, and taken out again (points 2, 3 and 29)."""

import copy
import itertools
import unittest

from nightpaper.errors import (
    Hindered, NoDeed, NoHour, NoPlace, NoRoom, NotLocked, Taken, TooMany, Twice, Unknown,
)
from nightpaper.nights import Night
from tests.nightly import FORM, LOCKS, all_told, night_of, piece, rows
from tests.things import NO_TEXTS, ODD_TEXTS, nested, refusal

EARLY = [*LOCKS, ("edition", "early")]


def entered(entries, form=FORM, **made):
    """A night with entries, each (hour, deed), entered in this order."""
    night = Night("times", form, **made)
    for hour, deed in entries:
        night.enter(hour, deed)
    return night


class InOrder(unittest.TestCase):
    def test_by_hours_and_in_one_as_they_came(self):
        deeds = [("lock", page) for page in (1, 2, 3, 4, 1, 2)]
        night = entered(zip((5, 3, 5, 0, 23, 3), deeds))
        self.assertEqual(night.entries(), [
            (0, ("lock", 4)), (3, ("lock", 2)), (3, ("lock", 2)), (5, ("lock", 1)), (5, ("lock", 3)), (23, ("lock", 1)),
        ])

    def test_all_orders_of_hours(self):
        deeds = [("piece", "a", ("a",), "one", 1, 5), ("book", "b", 1, 1, "x"), ("lock", 1), ("lock", 2)]
        wanted = all_told(entered(enumerate(deeds)))
        for order in itertools.permutations(enumerate(deeds)):
            self.assertEqual(all_told(entered(order)), wanted)

    def test_entered_late_it_stands_as_if_it_had_been_entered_in_its_hour(self):
        entries = [
            (0, piece("a", "old")), (1, ("fill", 1, 0, ("a",))), (2, ("lock", 1)), (3, ("book", "b", 1, 1, "x")),
            (4, ("lock", 1)), (4, ("lock", 2)), (4, ("lock", 3)), (4, ("lock", 4)), (5, ("edition", "early")),
        ]
        night = entered(entries)
        plates = [night.plate(5, 1, version) for version in (1, 2)]
        night.enter(1, piece("a", "new"))
        for version in (1, 2):
            self.assertNotEqual(night.plate(5, 1, version), plates[version - 1])
        self.assertEqual(all_told(night), all_told(entered(entries[:2] + [(1, piece("a", "new"))] + entries[2:])))
        night.enter(2, ("lock", 1))
        self.assertEqual(night.versions(5), (3, 1, 1, 1))
        self.assertEqual(night.editions(5), {"early": (3, 1, 1, 1)})

    def test_behind_the_entries_of_its_hour(self):
        night = entered([(3, piece("a", "one")), (3, ("fill", 1, 0, ("a",)))])
        night.enter(3, piece("a", "two"))
        self.assertEqual([deed[0] for _hour, deed in night.entries()], ["piece", "fill", "piece"])
        self.assertIn("two", str(night.page(3, 1)))
        refusal(Unknown, night.enter, 2, ("fill", 1, 0, ("a",)))

    def test_an_entry_s_order_of_booking_is_by_hours(self):
        night = entered([(5, ("book", "a", 1, 1, "x")), (3, ("book", "b", 1, 1, "x")), (3, ("book", "c", 1, 1, "x"))])
        self.assertEqual(night.page(5, 1).places(), [("b", 1, 9, 3), ("c", 0, 9, 3), ("a", 1, 6, 3)])


class NoHours(unittest.TestCase):
    def test_of_anything_ahead_of_no_deed(self):
        night = entered([(3, ("lock", 1))])
        before = all_told(night)
        hours = [thing for thing in NO_TEXTS if thing not in (0, 1, 5, 23) or isinstance(thing, bool)]
        for hour in [*hours, *ODD_TEXTS, -1, 24, nested(30)]:
            kept = copy.deepcopy(hour)
            for deed in (("lock", 1), ("lock", 9), None, [], ("lock",)):
                refusal(NoHour, night.enter, hour, deed)
            self.assertEqual(hour, kept)
        self.assertEqual(all_told(night), before)

    def test_no_deed_at_each_hour(self):
        night = entered([(3, ("lock", 1))])
        before = all_told(night)
        for hour in range(24):
            for thing in [*NO_TEXTS, *ODD_TEXTS]:
                refusal(NoDeed, night.enter, hour, thing)
        self.assertEqual(all_told(night), before)


class Hinders(unittest.TestCase):
    """Each refusal that an entry entered ahead of others brings about."""

    def hindered(self, entries, late, number, wanted, **made):
        night = entered(entries, **made)
        pages = made.get("pages", 4)
        before = all_told(night, pages)
        met = refusal(Hindered, night.enter, *late)
        self.assertEqual(met.entry, number)
        self.assertIs(type(met.refusal), wanted)
        self.assertEqual(all_told(night, pages), before)
        return met.refusal

    def test_taken(self):
        met = self.hindered([(3, ("book", "hats", 1, 1, "x"))], (1, ("book", "hats", 2, 1, "y")), 1, Taken)
        self.assertEqual(met.name, "hats")
        entries = [(1, deed) for deed in LOCKS] + [(3, ("edition", "early"))]
        self.assertEqual(self.hindered(entries, (2, ("edition", "early")), 5, Taken).name, "early")

    def test_unknown(self):
        entries = [(1, ("book", "hats", 1, 1, "x")), (2, ("lock", 1)), (3, ("lock", 1)), (4, ("unbook", "hats"))]
        self.assertEqual(self.hindered(entries, (2, ("unbook", "hats")), 4, Unknown).name, "hats")

    def test_twice(self):
        entries = [(1, piece("a")), (1, piece("b")), (3, ("lock", 1)), (3, ("fill", 2, 1, ("b", "a")))]
        self.assertEqual(self.hindered(entries, (2, ("fill", 1, 0, ("a",))), 4, Twice).name, "a")
        self.assertEqual(self.hindered(entries, (2, ("late", 4, ("b",))), 4, Twice).name, "b")
        entries[3] = (3, ("late", 2, ("a",)))
        self.assertEqual(self.hindered(entries, (1, ("fill", 1, 0, ("a",))), 4, Twice).name, "a")

    def test_no_room_of_late_and_of_lock(self):
        entries = [(1, piece("a", rows(9))), (3, ("late", 1, ("a",))), (4, ("lock", 1))]
        late = (2, ("book", "hats", 1, 1, rows(3)))
        self.assertEqual(self.hindered(entries, late, 2, NoRoom, form=(1, 16, 12)).lack, 3)
        late = (3, ("book", "hats", 1, 1, rows(3)))
        self.assertEqual(self.hindered(entries, late, 3, NoRoom, form=(1, 16, 12)).lack, 3)
        late = (3, piece("a", rows(15)))
        self.assertEqual(self.hindered(entries, late, 3, NoRoom, form=(1, 16, 12)).lack, 4)

    def test_the_first_such_one(self):
        entries = [(0, ("lock", 2)), (3, ("book", "a", 1, 1, "x")), (4, ("unbook", "a")), (5, ("book", "a", 1, 1, "x"))]
        self.assertEqual(self.hindered(entries, (1, ("book", "a", 1, 1, "x")), 2, Taken).name, "a")
        entries = [(3, ("book", "a", 1, 1, "x")), (3, ("book", "b", 1, 1, "x"))]
        night = entered(entries)
        night.enter(3, ("unbook", "a"))
        self.assertEqual(refusal(Hindered, night.enter, 0, ("book", "b", 1, 1, "x")).entry, 2)

    def test_its_own_refusal_goes_first(self):
        night = entered([(3, ("book", "a", 1, 1, "x"))])
        met = refusal(NoPlace, night.enter, 1, ("book", "a", 1, 5, "x"))
        self.assertEqual((met.number, met.many), (5, 2))
        self.assertEqual(refusal(Unknown, night.enter, 1, ("unbook", "a")).name, "a")

    def test_a_text_of_it_can_be_asked(self):
        night = entered([(3, ("book", "hats", 1, 1, "x"))])
        self.assertIsInstance(str(refusal(Hindered, night.enter, 1, ("book", "hats", 2, 1, "y"))), str)

    def test_not_hindered_by_what_is_ahead_of_it(self):
        night = entered([(1, ("book", "a", 1, 1, "x")), (5, ("unbook", "a"))])
        night.enter(5, ("book", "a", 2, 1, "x"))
        self.assertEqual(refusal(Taken, night.enter, 3, ("book", "a", 2, 1, "x")).name, "a")


class Out(unittest.TestCase):
    entries = [
        (1, piece("a")), (2, ("fill", 1, 0, ("a",))), (3, ("lock", 1)), (3, ("lock", 2)), (3, ("lock", 3)),
        (3, ("lock", 4)), (4, ("edition", "early")), (5, ("run", "hoe", "early", 0, 9, 1)),
        (6, ("want", "york", "ann", "early", 5)), (7, ("book", "hats", 1, 1, "x")),
    ]

    def test_as_if_it_had_never_been(self):
        for number in (1, 7, 8, 9):
            night = entered(self.entries)
            night.out(number)
            self.assertEqual(all_told(night), all_told(entered(self.entries[:number] + self.entries[number + 1:])))

    def test_all_of_them_one_by_one(self):
        night = entered(self.entries)
        for number in range(len(self.entries) - 1, -1, -1):
            night.out(number)
            self.assertEqual(all_told(night), all_told(entered(self.entries[:number])))

    def test_hindered_with_the_number_without_it(self):
        wanted = {0: (0, Unknown, "a"), 2: (5, NotLocked, 1), 4: (5, NotLocked, 3), 6: (6, Unknown, "early")}
        night = entered(self.entries)
        before = all_told(night)
        for number, (entry, error, field) in wanted.items():
            met = refusal(Hindered, night.out, number)
            self.assertEqual(met.entry, entry)
            self.assertIs(type(met.refusal), error)
            self.assertEqual(getattr(met.refusal, "number" if error is NotLocked else "name"), field)
            self.assertEqual(all_told(night), before)

    def test_no_place_of_anything(self):
        for many in (0, 3):
            night = entered([(0, ("lock", 1))] * many)
            before = all_told(night)
            for thing in [*NO_TEXTS, *ODD_TEXTS, many, many + 1, -1, -many, nested(30)]:
                if many and not isinstance(thing, bool) and thing in (0, 1, 2):
                    continue
                kept = copy.deepcopy(thing)
                met = refusal(NoPlace, night.out, thing)
                self.assertEqual((met.number, met.many), (kept, many))
                self.assertIs(type(met.number), type(kept))
            self.assertEqual(all_told(night), before)

    def test_entered_and_taken_out_again_leaves_no_trace(self):
        night = entered(self.entries)
        before = all_told(night)
        for hour, deed in [(0, piece("z")), (2, piece("a", "new")), (2, ("lock", 1)), (1, ("book", "z", 1, 2, "y")),
                           (5, ("run", "hoe", "early", 0, 5, 5)), (6, ("want", "york", "ann", "early", 0)),
                           (23, ("unbook", "hats"))]:
            night.enter(hour, deed)
            number = max(at for at, entry in enumerate(night.entries()) if entry == (hour, deed))
            self.assertNotEqual(all_told(night), before)
            night.out(number)
            self.assertEqual(all_told(night), before)

    def test_by_name(self):
        night = entered(self.entries)
        night.out(entry=9)
        self.assertEqual(night.entries(), self.entries[:9])

    def test_no_room_where_what_made_room_is_taken_out(self):
        night = entered([
            (1, piece("a", rows(9))), (1, piece("b", rows(9), 3, 1)), (1, ("fill", 1, 0, ("b",))),
            (2, ("fill", 1, 0, ())), (3, ("late", 1, ("a",))), (4, ("lock", 1)),
        ], form=(1, 16, 12))
        met = refusal(Hindered, night.out, 3)
        self.assertEqual((met.entry, type(met.refusal), met.refusal.lack), (3, NoRoom, 3))

    def test_a_run_s_edition_that_is_shorter_of_sheets_is_none(self):
        night = night_of(*EARLY, ("run", "hoe", "early", 0, 9, 9), hour=3)
        met = refusal(TooMany, night.enter, 3, ("run", "hoe", "early", 0, 9, 10))
        self.assertEqual((met.asked, met.most), (10, 9))
        met = refusal(Hindered, night.out, 4)
        self.assertEqual((met.entry, met.refusal.name), (4, "early"))
