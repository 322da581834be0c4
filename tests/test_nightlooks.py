"""What a night is asked at an hour (points 2, 3, 30 and 31)."""

import unittest

from nightpaper.bundles import Bundle, bundled
from nightpaper.errors import NoCopies, NoPlace, NoRoom, Unknown
from nightpaper.ledgers import Ledger
from nightpaper.nights import Night
from nightpaper.pages import Page, page_of
from nightpaper.pieces import Piece
from nightpaper.sheets import gathered, lacks, rests
from nightpaper.vans import vans
from tests.nightly import FORM, LOCKS, all_told, night_of, piece, rows
from tests.things import refusal

EARLY = [*LOCKS, ("edition", "early")]


class Hours(unittest.TestCase):
    def setUp(self):
        self.night = Night("times", FORM)
        for hour, deed in [
            (2, piece("a")), (2, ("fill", 1, 0, ("a",))), (4, ("book", "hats", 1, 1, "x")), *[(6,
                                                                                               one) for one in LOCKS],
            (8, ("edition", "early")), (8, ("lock", 1)), (10, ("run", "hoe", "early", 0, 30, 4)),
            (12, ("want", "york", "ann", "early", 40)), (14, ("unbook", "hats")), (14, ("fill", 1, 0, ())),
        ]:
            self.night.enter(hour, deed)

    def test_pages(self):
        a = Piece("a", ("a",), "a\nb\nc", 1, 5)
        for hour in range(24):
            ads = [("hats", 1, "x")] if 4 <= hour < 14 else []
            columns = [[a] if 2 <= hour < 14 else [], []]
            page = self.night.page(hour, 1)
            self.assertIs(type(page), Page)
            wanted = page_of(FORM, "times", 1, ads, columns)
            self.assertEqual((page, page.places(), page.stands()), (wanted, wanted.places(), wanted.stands()))

    def test_versions_and_plates(self):
        for hour in range(24):
            many = (hour >= 6) + (hour >= 8)
            versions = self.night.versions(hour)
            self.assertEqual(versions, (many, *[int(hour >= 6)] * 3))
            self.assertEqual([type(one) for one in (versions, *versions)], [tuple, int, int, int, int])
            for version in (1, 2):
                if version <= many:
                    self.assertEqual(self.night.plate(hour, 1, version), self.night.page(6, 1))
                else:
                    met = refusal(NoPlace, self.night.plate, hour, 1, version)
                    self.assertEqual((met.number, met.many), (version, many))

    def test_editions_sheets_and_copies(self):
        kind = (0, (1, 1, 1, 1))
        for hour in range(24):
            self.assertEqual(self.night.editions(hour), {"early": (1, 1, 1, 1)} if hour >= 8 else {})
            self.assertEqual(self.night.good(hour), {kind: 26} if hour >= 10 else {})
            self.assertEqual(self.night.lacking(hour), [(kind, 14)] if hour >= 12 else [])
            self.assertEqual(self.night.dealt(hour), [("early", "york", "ann", 26)] if hour >= 12 else [])
            wanted = (30, 26, 4, 0) if hour >= 12 else (30, 0, 4, 26) if hour >= 10 else (0, 0, 0, 0)
            self.assertEqual(self.night.white(hour), wanted)

    def test_bundles_and_bills(self):
        for hour in range(24):
            if hour < 8:
                self.assertEqual(refusal(Unknown, self.night.bundles, hour, "early").name, "early")
            else:
                wanted = ["york ann 1/1 26"] if hour >= 12 else []
                self.assertEqual([str(one) for one in self.night.bundles(hour, "early")], wanted)
            if not 4 <= hour < 14:
                self.assertEqual(refusal(Unknown, self.night.bill, hour, "hats").name, "hats")
            elif hour < 12:
                refusal(NoCopies, self.night.bill, hour, "hats")
            else:
                self.assertEqual(self.night.bill(hour, "hats"), 9)


class Asked(unittest.TestCase):
    def test_no_place_of_a_page(self):
        night = night_of(*EARLY)
        for number in (0, -1, 5, 10 ** 9):
            met = refusal(NoPlace, night.page, 0, number)
            self.assertEqual((met.number, met.many, str(met)), (number, 4, f"{number} of 4"))
            for version in (1, 9, 0):
                met = refusal(NoPlace, night.plate, 0, number, version)
                self.assertEqual((met.number, met.many), (number, 4))

    def test_no_place_of_a_version(self):
        night = night_of(*EARLY, ("lock", 2))
        for page, many in ((1, 1), (2, 2)):
            for version in (0, -1, -many, many + 1, 10 ** 9):
                met = refusal(NoPlace, night.plate, 0, page, version)
                self.assertEqual((met.number, met.many), (version, many))
        met = refusal(NoPlace, Night("times", FORM).plate, 0, 4, 1)
        self.assertEqual((met.number, met.many), (1, 0))

    def test_no_room_of_a_page_and_its_plates(self):
        night = night_of(piece("a", rows(9)), ("late", 1, ("a",)), ("lock", 1), ("book", "b", 1, 1, rows(4)),
                         form=(1, 16, 12))
        self.assertEqual(refusal(NoRoom, night.page, 0, 1).lack, 4)
        self.assertEqual(night.plate(0, 1, 1).stands(), [[("a", 0, 1, 9)]])

    def test_by_names(self):
        night = night_of(*EARLY, ("book", "hats", 1, 1, "x"), ("lock", 1), ("edition", "late"),
                         ("run", "hoe", "late", 0, 9, 0), ("want", "york", "ann", "late", 9))
        self.assertEqual(night.plate(version=2, number=1, hour=0), night.page(0, 1))
        self.assertEqual(night.bundles(size=5, edition="late", hour=0), night.bundles(0, "late", 5))
        self.assertEqual(night.bill(rate=7, ad="hats", hour=0), 21)
        for method in (night.versions, night.editions, night.good, night.lacking, night.dealt, night.white):
            self.assertEqual(method(hour=0), method(0))

    def test_what_is_told_is_the_asker_s_own(self):
        night = night_of(piece("a"), ("fill", 1, 0, ("a",)), ("book", "hats", 1, 1, "x"), *EARLY,
                         ("run", "hoe", "early", 0, 9, 1), ("want", "york", "ann", "early", 10))
        before = all_told(night)
        for told in (night.entries(), night.lacking(0), night.dealt(0), night.bundles(0, "early")):
            self.assertIs(type(told), list)
            self.assertTrue(told)
            told.append("more")
            told.reverse()
            told.pop()
        for told in (night.editions(0), night.good(0)):
            self.assertIs(type(told), dict)
            self.assertEqual(len(told), 1)
            told["more"] = 5
            told.pop(next(iter(told)))
        for page in (night.page(0, 1), night.plate(0, 1, 1)):
            for told in (page.lines(), page.places(), page.missed(), page.stands(), page.gone(), *page.stands()):
                told.append("more")
            page.number = 99
        self.assertEqual(all_told(night), before)

    def test_told_tuples_are_plain(self):
        night = night_of(*EARLY, ("run", "hoe", "early", 0, 9, 1), ("want", "york", "ann", "early", 10))
        told = [*night.entries(), *night.lacking(0), *night.dealt(0), night.white(0), night.versions(0),
                *night.editions(0).values(), *night.good(0)]
        self.assertEqual({type(one) for one in told}, {tuple})


class Sheets(unittest.TestCase):
    def test_editions_share_kinds(self):
        locks = [("lock", page) for page in range(1, 9)]
        night = night_of(*locks, ("edition", "early"), ("lock", 1), ("edition", "late"), pages=8)
        night.enter(0, ("run", "hoe", "early", 1, 20, 0))
        night.enter(0, ("run", "cox", "late", 1, 5, 2))
        night.enter(0, ("run", "hoe", "early", 0, 9, 9))
        night.enter(0, ("run", "hoe", "late", 0, 8, 0))
        good = {(1, (1, 1, 1, 1)): 23, (0, (1, 1, 1, 1)): 0, (0, (1, 2, 1, 1)): 8}
        self.assertEqual(night.good(0), good)
        night.enter(0, ("want", "york", "ann", "early", 3))
        night.enter(0, ("want", "york", "bob", "late", 10))
        editions = night.editions(0)
        wants = [("early", 3), ("late", 10)]
        self.assertEqual(night.lacking(0), lacks(editions, good, wants))
        self.assertEqual(night.lacking(0), [((0, (1, 1, 1, 1)), 3), ((0, (1, 2, 1, 1)), 2)])
        self.assertEqual([(row[0], row[3]) for row in night.dealt(0)], gathered(editions, good, wants))
        self.assertEqual(night.dealt(0), [("early", "york", "ann", 0), ("late", "york", "bob", 8)])
        self.assertEqual(night.white(0), (42, 16, 11, 15))
        self.assertEqual(sum(many for _kind, many in rests(editions, good, wants)), 15)

    def test_wants_in_any_order(self):
        deeds = [*EARLY, ("lock", 2), ("edition", "late"), ("run", "hoe", "early", 0, 10, 0),
                 ("run", "hoe", "late", 0, 3, 1)]
        wants = [
            ("want", "york", "bob", "late", 1), ("want", "hull", "cid", "early", 4), ("want", "york", "ann", "early",
                                                                                      9),
            ("want", "hull", "ann", "late", 2), ("want", "hull", "ann", "early", 3), ("want", "york", "ann", "late", 0),
        ]
        told = [
            ("early", "hull", "ann", 3), ("early", "hull", "cid", 4), ("early", "york", "ann", 3),
            ("late", "hull", "ann", 2), ("late", "york", "bob", 0),
        ]
        for order in (wants, wants[::-1], wants[3:] + wants[:3]):
            night = night_of(*deeds, *order)
            self.assertEqual(night.dealt(0), told)
            self.assertEqual(night.white(0), (13, 12, 1, 0))
            self.assertEqual(night.lacking(0), [((0, (1, 1, 1, 1)), 6), ((0, (1, 1, 2, 1)), 1)])

    def test_editions_alike_come_by_their_names(self):
        night = night_of(*EARLY, ("edition", "b"), ("edition", "a"), ("run", "hoe", "early", 0, 10, 0),
                         ("want", "york", "ann", "b", 6), ("want", "york", "ann", "early", 6),
                         ("want", "york", "ann", "a", 6))
        self.assertEqual(night.dealt(0), [("a", "york", "ann", 6), ("b", "york", "ann", 4), ("early", "york", "ann",
                                                                                             0)])

    def test_wants_of_nought(self):
        night = night_of(*EARLY, ("want", "york", "ann", "early", 0))
        self.assertEqual((night.dealt(0), night.lacking(0), night.bundles(0, "early")), ([], [], []))
        night.enter(0, ("run", "hoe", "early", 0, 7, 7))
        self.assertEqual((night.white(0), night.good(0)), ((7, 0, 7, 0), {(0, (1, 1, 1, 1)): 0}))


class Bundles(unittest.TestCase):
    def night(self):
        return night_of(
            *EARLY, ("lock", 1), ("edition", "late"), ("run", "hoe", "early", 0, 200, 0),
            ("run", "hoe", "late", 0, 30, 0), ("want", "york", "bob", "early", 70), ("want", "hull", "cid", "early",
                                                                                     50),
            ("want", "york", "ann", "early", 10 ** 6), ("want", "york", "ann", "late", 20),
            ("want", "aa", "aa", "early", 0),
        )

    def test_of_wants_as_gathered(self):
        night = self.night()
        self.assertEqual([str(one) for one in night.bundles(0, "early")], [
            "hull cid 1/1 50", "york ann 1/3 50", "york ann 2/3 50", "york ann 3/3 50",
        ])
        self.assertEqual(night.bundles(0, "late", 15), [
            Bundle("york", "ann", 1, 2, 15), Bundle("york", "ann", 2, 2, 5),
        ])

    def test_size_left_out_is_fifty(self):
        night = self.night()
        self.assertEqual(night.bundles(0, "early"), night.bundles(0, "early", 50))
        wants = [(town, seller, copies) for edition, town, seller, copies in night.dealt(0) if edition == "early"]
        for size in (1, 7, 50, 1000):
            self.assertEqual(night.bundles(0, "early", size), bundled(wants, size))

    def test_unknown(self):
        night = self.night()
        for name in ("york", "ann", "noon", "earl"):
            self.assertEqual(refusal(Unknown, night.bundles, 0, name).name, name)

    def test_sheets_copies_bundles_vans_and_accounts_fit_together(self):
        night = self.night()
        pulled, in_copies, spoiled, left = night.white(0)
        self.assertEqual(pulled, in_copies + spoiled + left)
        ledger = Ledger()
        bundles = [bundle for name in night.editions(0) for bundle in night.bundles(0, name, 30)]
        filled = vans(("york", "hull"), bundles, 90)
        for van in filled:
            self.assertLessEqual(sum(map(len, van)), 90)
            for bundle in van:
                ledger.send(bundle.seller, 0, bundle.copies)
        self.assertEqual(sum(row[1] for name in ledger.sellers() for row in ledger.account(name)), in_copies)
        for seller in ledger.sellers():
            copies = sum(row[3] for row in night.dealt(0) if row[2] == seller)
            self.assertEqual(ledger.account(seller), [(0, copies, 0, 2 * (copies - copies // 13))])


class Bills(unittest.TestCase):
    hats = ("book", "hats", 2, 2, "Hats for all heads of the town and more")

    def test_on_the_plates_of_some_editions(self):
        night = night_of(
            *EARLY, self.hats, ("lock", 2), ("edition", "noon"), ("unbook", "hats"), ("lock", 2), ("edition", "late"),
            ("run", "hoe", "early", 0, 50, 0), ("run", "hoe", "noon", 0, 20, 0), ("run", "hoe", "late", 0, 30, 0),
            ("want", "york", "ann", "early", 50), ("want", "york", "ann", "noon", 17),
            ("want", "hull", "ann", "noon", 30), ("want", "york", "ann", "late", 30),
        )
        self.assertEqual(refusal(Unknown, night.bill, 0, "hats").name, "hats")
        night.enter(1, self.hats)
        # Twenty copies of a hundred bear it: two columns of four rows.
        self.assertEqual(night.page(1, 2).places(), [("hats", 0, 8, 4)])
        self.assertEqual([night.bill(1, "hats", rate) for rate in (1, 3, 100, 0)], [1, 4, 160, 0])
        self.assertEqual(night.bill(1, "hats"), 4)

    def test_booked_otherwise_since(self):
        night = night_of(*EARLY, self.hats, ("lock", 2), ("edition", "late"), ("run", "hoe", "late", 0, 10, 0),
                         ("run", "hoe", "early", 0, 30, 0), ("want", "york", "ann", "late", 10),
                         ("want", "york", "ann", "early", 30))
        self.assertEqual(night.bill(0, "hats", 1000), 2000)
        night.enter(1, ("unbook", "hats"))
        night.enter(1, ("book", "hats", 2, 1, "Hats"))
        self.assertEqual(night.bill(1, "hats", 1000), 750)
        night.enter(2, ("unbook", "hats"))
        night.enter(2, ("book", "hats", 1, 1, "Hats"))
        self.assertEqual(night.bill(2, "hats", 1000), 0)

    def test_a_missed_one_stands_on_no_plate(self):
        night = night_of(("book", "caps", 2, 2, rows(6)), self.hats, *EARLY, ("run", "hoe", "early", 0, 10, 0),
                         ("want", "york", "ann", "early", 10))
        self.assertEqual(night.plate(0, 2, 1).missed(), ["hats"])
        self.assertEqual((night.bill(0, "hats", 1000), night.bill(0, "caps", 1000)), (0, 16000))

    def test_rounded_down(self):
        night = night_of(("book", "hats", 1, 1, "x"), *EARLY, ("unbook", "hats"), ("lock", 1), ("edition", "late"),
                         ("run", "hoe", "early", 0, 2, 0), ("run", "hoe", "late", 0, 5, 0),
                         ("want", "york", "ann", "early", 2), ("want", "york", "ann", "late", 5),
                         ("book", "hats", 1, 1, "x"))
        self.assertEqual([night.bill(0, "hats", rate) for rate in (1, 2, 3, 7, 8)], [0, 1, 2, 6, 6])
        self.assertEqual(night.bill(0, "hats"), 2)

    def test_no_copies_behind_unknown(self):
        for deeds in ([], EARLY, [*EARLY, ("want", "york", "ann", "early", 5)],
                      [*EARLY, ("run", "hoe", "early", 0, 5, 0)],
                      [*EARLY, ("run", "hoe", "early", 0, 5, 5), ("want", "york", "ann", "early", 5)],
                      [*EARLY, ("run", "hoe", "early", 0, 5, 0), ("want", "york", "ann", "early", 0)]):
            night = night_of(self.hats, *deeds)
            refusal(NoCopies, night.bill, 0, "hats")
            self.assertEqual(refusal(Unknown, night.bill, 0, "caps").name, "caps")
