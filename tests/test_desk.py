"""A desk (points 2, 3 and 34, and the interface's rows)."""

import copy
import unittest

from nightpaper.desk import Desk
from nightpaper.errors import (
    Hindered, NoCopies, NoCopy, NoDeed, NoFit, NoHour, NoPlace, NoRoom, NoRow, NotLocked, Taken, TooMany, Twice,
    Unknown,
)
from nightpaper.marks import mark_text
from nightpaper.nights import Night
from nightpaper.nighttexts import night_by, night_text
from tests.nightly import FORM, all_told, night_of, piece, rows
from tests.things import NO_TEXTS, ODD_TEXTS, nested, refusal

TEXT = """night times 2 16 12 4 4 5
0 piece fire 2 5 The_{up_mill}_burns. Fire_at_the_mill Fire
0 piece snow 9 9 a/b/c/d/e/f/g/h/i Snow
1 fill 1 0 fire snow
1 book hats 1 2 Hats/for_all
1 book caps 1 2 Caps/of/all/kinds
3 lock 1
3 lock 2
3 lock 3
3 lock 4
4 edition noon
4 lock 1
4 edition late
5 run hoe noon 0 100 10
5 run cox late 0 40 0
6 want york bob noon 60
6 want hull ann noon 70
6 want york bob late 5
6 want york ann late 0"""


def desk_of(text=TEXT):
    return Desk(night_by(text))


class Answers(unittest.TestCase):
    def test_enter(self):
        desk = Desk(Night("times", FORM))
        for line in TEXT.split("\n")[1:]:
            self.assertEqual(desk.say("enter " + line), "ok")
        self.assertEqual(desk.say("night"), TEXT)

    def test_enter_in_any_hour(self):
        desk = Desk(Night("times", FORM))
        for hour in (5, 23, 0, 5):
            self.assertEqual(desk.say(f"enter {hour} lock 1"), "ok")
        self.assertEqual(desk.say("night"), "night times 2 16 12 4 4 5\n0 lock 1\n5 lock 1\n5 lock 1\n23 lock 1")

    def test_out(self):
        desk = desk_of()
        self.assertEqual(desk.say("out 17"), "ok")
        self.assertEqual(desk.say("out 16"), "ok")
        self.assertEqual(desk.say("night"), "\n".join(TEXT.split("\n")[:17]))
        self.assertEqual(desk.say("dealt 23"), "noon hull ann 70; noon york bob 20")

    def test_page(self):
        self.assertEqual(desk_of().say("page 23 1"), "\n".join([
            "times                        page 1",
            "===================================",
            "Fire at the mill |                 ",
            "The MILL burns.  |                 ",
            "                 |                 ",
            "                 |                 ",
            "                 |                 ",
            "                 |                 ",
            "                 |                 ",
            "                 |                 ",
            "+---------------------------------+",
            "| Hats                            |",
            "| for all                         |",
            "+---------------------------------+",
        ]))
        night = night_by(TEXT)
        for hour in (0, 1, 5):
            for number in (1, 2, 3, 4):
                self.assertEqual(desk_of().say(f"page {hour} {number}"), str(night.page(hour, number)))

    def test_plate(self):
        desk = desk_of()
        self.assertEqual(desk.say("plate 23 1 1"), desk.say("page 3 1"))
        desk.say("enter 3 unbook hats")
        self.assertEqual(desk.say("plate 23 1 2"), desk.say("page 4 1"))
        self.assertNotEqual(desk.say("plate 23 1 2"), desk.say("plate 23 1 1"))

    def test_mark(self):
        night = night_by(TEXT)
        for hour in (0, 1, 5):
            for number in (1, 2, 3, 4):
                self.assertEqual(desk_of().say(f"mark {hour} {number}"), mark_text(night.page(hour, number).mark()))

    def test_gone(self):
        desk = desk_of()
        self.assertEqual(desk.say("gone 23 1"), "snow caps")
        self.assertEqual(desk.say("gone 0 1"), "-")
        self.assertEqual(desk.say("gone 23 4"), "-")
        desk.say("enter 7 unbook hats")
        self.assertEqual(desk.say("gone 23 1"), "snow")
        desk.say("enter 8 fill 1 0")
        self.assertEqual(desk.say("gone 23 1"), "-")
        desk.say("enter 8 book bags 1 2 a/b/c/d")
        desk.say("enter 8 book rags 1 2 a/b/c/d")
        self.assertEqual(desk.say("gone 23 1"), "bags rags")

    def test_gone_column_by_column(self):
        night = night_of(piece("a", rows(9), 9, 9), piece("b", rows(9), 9, 8), piece("c", rows(9), 9, 9),
                         ("fill", 1, 1, ("b", "a")), ("fill", 1, 0, ("c",)), ("book", "x", 1, 2, rows(6)))
        self.assertEqual(Desk(night).say("gone 0 1"), "c a b")

    def test_versions(self):
        desk = desk_of()
        self.assertEqual([desk.say(f"versions {hour}") for hour in (0, 3, 4)], ["0 0 0 0", "1 1 1 1", "2 1 1 1"])
        desk = Desk(Night("times", FORM, 8))
        self.assertEqual(desk.say("versions 0"), "0 0 0 0 0 0 0 0")

    def test_editions(self):
        desk = desk_of()
        self.assertEqual(desk.say("editions 3"), "-")
        self.assertEqual(desk.say("editions 4"), "late 2 1 1 1; noon 1 1 1 1")
        desk.say("out 10")
        self.assertEqual(desk.say("editions 4"), "late 1 1 1 1; noon 1 1 1 1")

    def test_dealt(self):
        desk = desk_of()
        self.assertEqual(desk.say("dealt 5"), "-")
        self.assertEqual(desk.say("dealt 6"), "late york bob 5; noon hull ann 70; noon york bob 20")

    def test_white(self):
        desk = desk_of()
        told = [desk.say(f"white {hour}") for hour in (4, 5, 6)]
        self.assertEqual(told, ["0 0 0 0", "140 0 10 130", "140 95 10 35"])

    def test_bundles(self):
        desk = desk_of()
        self.assertEqual(desk.say("bundles 6 noon"), "hull ann 1/2 50; hull ann 2/2 20; york bob 1/1 20")
        self.assertEqual(desk.say("bundles 6 late 2"), "york bob 1/3 2; york bob 2/3 2; york bob 3/3 1")
        self.assertEqual(desk.say("bundles 6 noon 1000"), "hull ann 1/1 70; york bob 1/1 20")
        self.assertEqual(desk.say("bundles 6 late 1"), "; ".join(f"york bob {number}/5 1" for number in range(1, 6)))
        self.assertEqual(desk.say("bundles 5 late"), "-")
        self.assertEqual(desk.say("bundles 5 noon 7"), "-")

    def test_bill(self):
        desk = desk_of()
        self.assertEqual(desk.say("bill 6 hats"), "0-02-00")
        self.assertEqual(desk.say("bill 6 hats 3"), "0-02-00")
        self.assertEqual(desk.say("bill 6 hats 100"), "3-06-08")
        self.assertEqual(desk.say("bill 6 hats 0"), "0-00-00")
        self.assertEqual(desk.say("bill 6 caps"), "0-00-00")
        self.assertEqual(desk.say("bill 6 hats 9999999999"), "333333333-06-00")

    def test_night(self):
        self.assertEqual(desk_of().say("night"), TEXT)
        self.assertEqual(Desk(Night("sun", (1, 40, 60), 16, 0, 9)).say("night"), "night sun 1 40 60 16 0 9")

    def test_great_counts(self):
        night = night_by("\n".join(TEXT.split("\n")[:13]))
        night.enter(5, ("run", "hoe", "noon", 0, 10 ** 5000, 0))
        night.enter(5, ("want", "york", "ann", "noon", 10 ** 4999))
        great = "1" + "0" * 4999
        self.assertEqual(Desk(night).say("dealt 5"), f"noon york ann {great}")
        self.assertEqual(Desk(night).say("white 5"), f"{great}0 {great} 0 9{great[1:]}")

    def test_by_name(self):
        desk = Desk(night=Night("times", FORM))
        self.assertEqual(desk.say(row="versions 3"), "0 0 0 0")

    def test_the_method_is_the_class_s_own(self):
        self.assertIn("say", vars(Desk))


class OwnNight(unittest.TestCase):
    def test_with_the_same_entries(self):
        night = night_by(TEXT)
        self.assertEqual(Desk(night).say("night"), night_text(night))

    def test_neither_changes_the_other(self):
        night = night_by(TEXT)
        before = all_told(night)
        desk, other = Desk(night), Desk(night)
        desk.say("enter 2 piece fire 0 1 New Fire")
        desk.say("out 18")
        self.assertEqual(all_told(night), before)
        self.assertEqual(other.say("night"), TEXT)
        told = desk.say("night")
        night.enter(0, ("lock", 4))
        night.out(len(night.entries()) - 1)
        self.assertEqual((desk.say("night"), other.say("night")), (told, TEXT))

    def test_what_is_refused_changes_nothing(self):
        desk = desk_of()
        for row in ("enter 3 lock 9", "enter 0 unbook hats", "enter 24 lock 1", "out 0", "out 99", "nonsense",
                    "enter 3 piece fire 2 5 } a", "enter 0 book hats 1 1 x"):
            try:
                desk.say(row)
            except (ValueError, KeyError, IndexError):
                self.assertEqual(desk.say("night"), TEXT)
            else:
                self.fail(row)


class NoRows(unittest.TestCase):
    def setUp(self):
        self.desk = desk_of()

    def tearDown(self):
        self.assertEqual(self.desk.say("night"), TEXT)

    def none_of(self, *said):
        for row in said:
            with self.subTest(row):
                refusal(NoRow, self.desk.say, row)

    def test_no_text(self):
        for thing in [*NO_TEXTS, nested(30), ["night"], ("night",), {"night": 1}, b"night"]:
            before = copy.deepcopy(thing)
            self.none_of(thing)
            self.assertEqual(thing, before)

    def test_empty_words(self):
        self.none_of("", " ", "  ", "night ", " night", "page  5 1", "page 5  1", "page 5 1 ", " page 5 1",
                     "enter  3 lock 1", "enter 3 lock 1 ", "enter 3 fill 1 0 ", "enter 3 fill 1 0  fire",
                     "enter 3 late 1 ",
                     "enter 3 piece a 1 5 x y ", "bundles 6 noon ", "bill 6 hats ")

    def test_first_words(self):
        self.none_of(*ODD_TEXTS, "nights", "Night", "night\n", "\nnight", "lock 1", "3 lock 1", "pages 5 1", "good 5",
                     "lacking 5", "entries", "hello", "~e", "-", "enter", "out", "page", "plate", "mark", "gone",
                     "versions", "editions", "dealt", "white", "bundles", "bill", "PAGE 5 1")

    def test_counts_of_words(self):
        for row in ("out 1", "page 5 1", "plate 5 1 1", "mark 5 1", "gone 5 1", "versions 5", "editions 5", "dealt 6",
                    "white 6", "bundles 6 noon 7", "bill 6 hats 7", "night"):
            self.none_of(row + " 1", row + " a", row + " 1 1")
            words = row.split(" ")
            if words[0] not in ("bundles", "bill", "night"):
                self.none_of(" ".join(words[:-1]))
        self.none_of("bundles 6", "bill 6", "bundles", "bill", "enter 3", "enter 3 lock", "enter 3 lock 1 1",
                     "enter 3 fill", "enter 3 fill 1", "enter 3 late", "enter 3 piece", "enter 3 piece a",
                     "enter 3 piece a 1",
                     "enter 3 piece a 1 5", "enter 3 book a 1 1", "enter 3 book a 1 1 x y", "enter 3 unbook",
                     "enter 3 unbook a b", "enter 3 edition", "enter 3 edition a b", "enter 3 run hoe noon 0 1",
                     "enter 3 run hoe noon 0 1 0 0", "enter 3 want york ann noon", "enter 3 want york ann noon 1 1")

    def test_words_of_enter(self):
        self.none_of("enter 3 locks 1", "enter 3 Lock 1", "enter 3 night times 2 16 12 4 4 5", "enter 3 out 1",
                     "enter 3 3", "enter lock 1", "enter 24 locks 1", "enter 3 page 1", "enter 3 ~e")

    def test_names(self):
        for name in ("Noon", "abcdefghi", "noon1", "1", "~e", "no_on", "noon\n", "-"):
            self.none_of(f"bundles 6 {name}", f"bundles 6 {name} 7", f"bill 6 {name}", f"bill 6 {name} 7",
                         f"enter 3 piece {name} 1 5 x y", f"enter 3 book {name} 1 1 x", f"enter 3 unbook {name}",
                         f"enter 3 edition {name}", f"enter 3 run {name} noon 0 1 0", f"enter 3 run hoe {name} 0 1 0",
                         f"enter 3 want {name} ann noon 1", f"enter 3 want york {name} noon 1",
                         f"enter 3 want york ann {name} 1", f"enter 3 fill 1 0 {name}", f"enter 3 fill 1 0 fire {name}",
                         f"enter 3 late 1 {name}", f"enter 3 late 1 fire {name}")

    def test_numbers(self):
        for number in ("01", "00", "-1", "+1", "a", "1.", "10000000000", "12345678901", "1\n", "~e", "1_0", "0x1"):
            self.none_of(
                f"out {number}", f"page 5 {number}", f"page {number} 1", f"plate 5 {number} 1", f"plate 5 1 {number}",
                f"plate {number} 1 1", f"mark 5 {number}", f"mark {number} 1", f"gone 5 {number}", f"gone {number} 1",
                f"versions {number}", f"editions {number}", f"dealt {number}", f"white {number}",
                f"bundles {number} noon",
                f"bundles 6 noon {number}", f"bill {number} hats", f"bill 6 hats {number}", f"enter {number} lock 1",
                f"enter 3 lock {number}", f"enter 3 piece a {number} 5 x y", f"enter 3 piece a 1 {number} x y",
                f"enter 3 book a {number} 1 x", f"enter 3 book a 1 {number} x", f"enter 3 fill {number} 0 fire",
                f"enter 3 fill 1 {number} fire", f"enter 3 late {number} fire", f"enter 3 run hoe noon {number} 1 0",
                f"enter 3 run hoe noon 0 {number} 0", f"enter 3 run hoe noon 0 1 {number}",
                f"enter 3 want york ann noon {number}",
            )

    def test_hours_of_rows_that_ask(self):
        for hour in ("24", "25", "99", "9999999999"):
            self.none_of(f"page {hour} 1", f"plate {hour} 1 1", f"mark {hour} 1", f"gone {hour} 1", f"versions {hour}",
                         f"editions {hour}", f"dealt {hour}", f"white {hour}", f"bundles {hour} noon",
                         f"bill {hour} hats")
            self.none_of(f"page {hour} 99", f"plate {hour} 99 99", f"bundles {hour} none", f"bill {hour} none")

    def test_sizes(self):
        for size in ("0", "1001", "9999999999", "-1", "050"):
            self.none_of(f"bundles 6 noon {size}", f"bundles 6 none {size}")

    def test_packed_texts(self):
        for word in ("~", "a~", "~x", "~e~e", "a~e", "a\nb", "\n"):
            self.none_of(f"enter 3 piece a 1 5 {word} y", f"enter 3 piece a 1 5 x {word}",
                         f"enter 3 piece a 1 5 x y {word}",
                         f"enter 3 piece a 1 5 x a b c d {word}", f"enter 3 book a 1 1 {word}")

    def test_no_row_ahead_of_all_else(self):
        self.none_of("enter 24 piece Fire 2 10 } x", "enter 24 lock", "enter 24 fill 9 9 A",
                     "enter 3 fill 9 9 a b c d e f g h I", "plate 24 9 9", "bundles 3 none 0", "bill 3 none 01",
                     "enter 99 want york ann none 01")


class ThenRefused(unittest.TestCase):
    """What the stages refuse."""

    def setUp(self):
        self.desk = desk_of()

    def tearDown(self):
        self.assertEqual(self.desk.say("night"), TEXT)

    def refused(self, wanted, row, **fields):
        met = refusal(wanted, self.desk.say, row)
        for field, value in fields.items():
            self.assertEqual(getattr(met, field), value, row)
        return met

    def test_no_hour_by_enter_alone(self):
        for hour in ("24", "100", "9999999999"):
            self.refused(NoHour, f"enter {hour} lock 1")
            self.refused(NoHour, f"enter {hour} lock 9")
            self.refused(NoHour, f"enter {hour} piece a 1 10 x y")

    def test_no_deed(self):
        for row in ("piece a 1 5 x", "piece a 1 5 x a b c d e", "piece a 1 0 x y", "piece a 1 10 x y",
                    "piece a 1 5 x ~e",
                    "piece a 1 5 x _", "piece a 1 5 x a/b", "piece a 1 5 } a b c d e", "book a 1 0 x",
                    "book hats 9 0 x",
                    "fill 1 0 a b c d e f g h i", "fill 9 9 a b c d e f g h i", "late 1 a b", "late 9 fire fire"):
            self.refused(NoDeed, f"enter 3 {row}")

    def test_by_enter(self):
        self.refused(NoCopy, "enter 3 piece a 1 5 {us} y", at=2)
        self.refused(NoFit, "enter 3 piece a 1 5 x aaaaaaaaaaaaaaaaa", rows=None)
        self.refused(Taken, "enter 3 book hats 1 1 x", name="hats")
        self.refused(NoPlace, "enter 3 book bags 5 1 x", number=5, many=4)
        self.refused(NoPlace, "enter 3 book bags 1 3 x", number=3, many=2)
        self.refused(Unknown, "enter 3 unbook bags", name="bags")
        self.refused(NoPlace, "enter 3 fill 0 0 fire", number=0, many=4)
        self.refused(NoPlace, "enter 3 fill 1 2 fire", number=2, many=2)
        self.refused(Unknown, "enter 3 fill 1 0 fire rain", name="rain")
        self.refused(Twice, "enter 3 fill 1 1 fire", name="fire")
        self.refused(NoPlace, "enter 3 late 9999999999", number=9999999999, many=4)
        self.refused(Twice, "enter 3 late 2 snow", name="snow")
        self.refused(NoPlace, "enter 3 lock 5", number=5, many=4)
        self.refused(Taken, "enter 5 edition noon", name="noon")
        self.refused(NotLocked, "enter 1 edition noon", number=1)
        self.refused(Unknown, "enter 5 run hoe early 0 1 2", name="early")
        self.refused(NoPlace, "enter 5 run hoe noon 1 1 2", number=1, many=1)
        self.refused(TooMany, "enter 5 run hoe noon 0 1 2", asked=2, most=1)
        self.refused(Unknown, "enter 5 want york ann early 0", name="early")

    def test_no_room(self):
        row = "enter 3 piece a 1 5 " + "/".join("x" * 40) + " a"
        self.assertEqual(self.desk.say(row), "ok")
        self.refused(NoRoom, "enter 3 late 2 a", lack=17)
        self.assertEqual(self.desk.say("enter 3 piece a 1 5 x a"), "ok")
        self.assertEqual(self.desk.say("enter 3 late 2 a"), "ok")
        self.assertEqual(self.desk.say("enter 4 piece a 1 5 " + "/".join("x" * 40) + " a"), "ok")
        for word in ("page", "mark", "gone"):
            self.refused(NoRoom, f"{word} 4 2", lack=17)
        self.refused(NoRoom, "enter 4 lock 2", lack=17)
        entries = [line.split(" ")[1:3] for line in self.desk.say("night").split("\n")[1:]]
        for number in range(len(entries) - 1, -1, -1):
            if entries[number] in (["piece", "a"], ["late", "2"]):
                self.assertEqual(self.desk.say(f"out {number}"), "ok")

    def test_hindered(self):
        met = self.refused(Hindered, "enter 0 book hats 1 1 x", entry=4)
        self.assertEqual((type(met.refusal), met.refusal.name), (Taken, "hats"))
        met = self.refused(Hindered, "out 0", entry=1)
        self.assertEqual((type(met.refusal), met.refusal.name), (Unknown, "fire"))

    def test_by_out(self):
        self.refused(NoPlace, "out 18", number=18, many=18)
        self.refused(NoPlace, "out 9999999999", number=9999999999, many=18)
        met = refusal(NoPlace, Desk(Night("times", FORM)).say, "out 0")
        self.assertEqual((met.number, met.many), (0, 0))

    def test_by_rows_that_ask(self):
        for word in ("page", "mark", "gone"):
            self.refused(NoPlace, f"{word} 5 0", number=0, many=4)
            self.refused(NoPlace, f"{word} 5 5", number=5, many=4)
        self.refused(NoPlace, "plate 5 5 1", number=5, many=4)
        self.refused(NoPlace, "plate 5 1 0", number=0, many=2)
        self.refused(NoPlace, "plate 5 1 3", number=3, many=2)
        self.refused(NoPlace, "plate 3 1 2", number=2, many=1)
        self.refused(NoPlace, "plate 0 1 1", number=1, many=0)
        self.refused(Unknown, "bundles 6 early", name="early")
        self.refused(Unknown, "bundles 3 noon 7", name="noon")
        self.refused(Unknown, "bill 6 bags", name="bags")
        self.refused(Unknown, "bill 0 hats 5", name="hats")
        self.refused(NoCopies, "bill 5 hats")
        self.refused(NoCopies, "bill 5 caps 0")
