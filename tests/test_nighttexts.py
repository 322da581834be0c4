"""Texts of nights, written and read, and plates made again (points 2, 3, 32 and 33)."""

import copy
import itertools
import unittest

from nightpaper.errors import NoPlace, NoText
from nightpaper.nights import Night
from nightpaper.nighttexts import made_again, night_by, night_text, packed, unpacked
from nightpaper.words import number_by, number_text
from tests.nightly import LOCKS, all_told, night_of, piece, rows
from tests.things import NO_TEXTS, nested, refusal

SIGNS = [chr(number) for number in range(32, 127) if number != 37] + ["\n"]

FIRST = "night times 2 16 12 4 4 5"
DEEDS = [
    ("piece", "fire", ("Fire at the mill", "Fire"), "The {up mill} burns.\nIt ~_/ burns.", 2, 5),
    ("piece", "snow", ("Snow",), "", 0, 9),
    ("piece", "rain", ("a", "b", " c ", "d_/~"), "\n", 10 ** 9, 1),
    ("book", "hats", 1, 2, "Hats\nfor all"), ("book", "caps", 4, 1, ""), ("unbook", "hats"),
    ("fill", 1, 0, ("fire", "snow")), ("fill", 1, 1, ()), ("late", 2, ("rain",)), ("late", 3, ()),
    *LOCKS, ("edition", "early"), ("run", "hoe", "early", 0, 100, 3), ("want", "york", "ann", "early", 70),
]
LINES = [
    "piece fire 2 5 The_{up_mill}_burns./It_~t~u~s_burns. Fire_at_the_mill Fire",
    "piece snow 0 9 ~e Snow",
    "piece rain 1000000000 1 / a b _c_ d~u~s~t",
    "book hats 1 2 Hats/for_all", "book caps 4 1 ~e", "unbook hats",
    "fill 1 0 fire snow", "fill 1 1", "late 2 rain", "late 3",
    "lock 1", "lock 2", "lock 3", "lock 4", "edition early", "run hoe early 0 100 3", "want york ann early 70",
]


def text_of(*lines, first=FIRST, hour=3):
    """A night's text of lines without their hours."""
    return "\n".join([first] + [f"{hour} {line}" for line in lines])


class Packed(unittest.TestCase):
    def test_each_sign(self):
        others = {" ": "_", "\n": "/", "_": "~u", "/": "~s", "~": "~t"}
        for sign in SIGNS:
            self.assertEqual(packed(sign), others.get(sign, sign))
            self.assertEqual(unpacked(packed(sign)), sign)
            self.assertEqual(packed(f"a{sign}b{sign}"), f"a{others.get(sign, sign)}b{others.get(sign, sign)}")

    def test_without_signs(self):
        self.assertEqual(packed(""), "~e")
        self.assertEqual(unpacked("~e"), "")
        self.assertEqual(packed("~e"), "~te")
        self.assertEqual(unpacked("~te"), "~e")

    def test_there_and_back(self):
        for many in range(5):
            for signs in itertools.product(" \n_/~ute", repeat=many):
                text = "".join(signs)
                word = packed(text)
                self.assertNotIn(" ", word)
                self.assertNotIn("\n", word)
                self.assertNotEqual(word, "")
                self.assertEqual(unpacked(word), text)

    def test_what_packs_none(self):
        for many in range(5):
            for signs in itertools.product("_/~uste \n", repeat=many):
                word = "".join(signs)
                try:
                    text = unpacked(word)
                except NoText as met:
                    self.assertEqual(met.row, 0)
                    # Each ~ with one of its letters behind it packs a sign, so all else would have to be wrong.
                    bare = word.replace("~u", ".").replace("~s", ".").replace("~t", ".")
                    self.assertTrue(word == "" or "~" in bare or " " in word or "\n" in word)
                    self.assertNotEqual(word, "~e")
                else:
                    self.assertEqual(packed(text), word)

    def test_what_packs_none_by_hand(self):
        for word in ("", " ", "\n", "a b", "a\n", "~", "a~", "~a", "~U", "~~", "~_", "~/", "~e~e", "a~e", "~ea", "~u~"):
            self.assertEqual(refusal(NoText, unpacked, word).row, 0)

    def test_of_anything(self):
        for thing in NO_TEXTS:
            before = copy.deepcopy(thing)
            self.assertEqual(refusal(NoText, unpacked, thing).row, 0)
            self.assertEqual(thing, before)

    def test_by_names(self):
        self.assertEqual((packed(text="a b"), unpacked(text="a_b")), ("a_b", "a b"))


class Numbers(unittest.TestCase):
    def test_written_with_all_figures(self):
        for number in (0, 7, 10, 10 ** 10 - 1, 10 ** 10, 10 ** 63, 10 ** 64 - 1, 10 ** 64, 10 ** 64 + 5, 12345 ** 60):
            self.assertEqual(number_text(number), str(number))
        self.assertEqual(number_text(10 ** 5000), "1" + "0" * 5000)
        self.assertEqual(number_text(7 * 10 ** 5000 + 3), "7" + "0" * 4999 + "3")

    def test_read(self):
        for number in (0, 1, 9, 10, 105, 10 ** 9, 10 ** 10 - 1):
            self.assertEqual(number_by(str(number)), number)
        for word in ("", "00", "01", "0000000001", "10000000000", "-1", "+1", "1.", "1_0", " 1", "1 ", "1\n", "a",
                     "1a"):
            self.assertEqual(refusal(NoText, number_by, word).row, 0)


class Written(unittest.TestCase):
    def test_without_entries(self):
        self.assertEqual(night_text(Night("times", (2, 16, 12))), FIRST)
        self.assertEqual(night_text(Night("a", (6, 40, 60), 16, 6, 9)), "night a 6 40 60 16 6 9")
        self.assertEqual(night_text(Night("sundaily", (1, 16, 6), 8, 0, 0)), "night sundaily 1 16 6 8 0 0")

    def test_each_deed(self):
        self.assertEqual(night_text(night_of(*DEEDS, hour=3)), text_of(*LINES))

    def test_hours(self):
        night = Night("times", (2, 16, 12))
        for hour, page in ((23, 1), (0, 2), (10, 3), (0, 4)):
            night.enter(hour, ("lock", page))
        self.assertEqual(night_text(night), f"{FIRST}\n0 lock 2\n0 lock 4\n10 lock 3\n23 lock 1")

    def test_numbers_of_more_figures_are_written_and_not_read(self):
        for number in (10 ** 10, 10 ** 5000):
            night = night_of(("piece", "a", ("a",), "b", number, 5), *LOCKS, ("edition", "early"),
                             ("run", "hoe", "early", 0, number, 0), ("want", "york", "ann", "early", number))
            figures = "1" + "0" * (10 if number == 10 ** 10 else 5000)
            text = night_text(night)
            self.assertEqual(text.split("\n")[1], f"0 piece a {figures} 5 b a")
            self.assertEqual(text.split("\n")[7:], [
                f"0 run hoe early 0 {figures} 0", f"0 want york ann early {figures}",
            ])
            self.assertEqual(refusal(NoText, night_by, text).row, 1)
            night.out(0)
            self.assertEqual(refusal(NoText, night_by, night_text(night)).row, 6)

    def test_ten_figures_are_read(self):
        night = night_of(("piece", "a", ("a",), "b", 10 ** 10 - 1, 5))
        self.assertEqual(night_text(night), f"{FIRST}\n0 piece a 9999999999 5 b a")
        self.assertEqual(night_by(night_text(night)).entries(), night.entries())


class Read(unittest.TestCase):
    def test_as_written(self):
        night = night_by(text_of(*LINES))
        self.assertIs(type(night), Night)
        self.assertEqual(night.entries(), [(3, deed) for deed in DEEDS])
        self.assertEqual(night_text(night), text_of(*LINES))
        self.assertEqual(all_told(night), all_told(night_of(*DEEDS, hour=3)))

    def test_what_a_night_is_made_of(self):
        deeds = [piece("a", rows(5), 5, 6), ("fill", 1, 0, ("a",)), ("book", "b", 1, 1, rows(7)), piece("c", rows(1)),
                 ("late", 1, ("c",)), ("lock", 1)]
        for made in ({}, {"pages": 8}, {"keep": 0}, {"stay": 9}, {"pages": 16, "keep": 6, "stay": 0}):
            night = night_of(*deeds, **made)
            pages = made.get("pages", 4)
            self.assertEqual(all_told(night_by(night_text(night)), pages), all_told(night, pages))

    def test_a_night_of_its_own(self):
        night = night_of(*DEEDS)
        other = night_by(night_text(night))
        other.enter(23, ("lock", 1))
        self.assertEqual(len(night.entries()) + 1, len(other.entries()))

    def test_by_name(self):
        self.assertEqual(night_by(text=FIRST).entries(), [])
        self.assertEqual(night_text(night=night_by(FIRST)), FIRST)


class NotRead(unittest.TestCase):
    def wrong(self, text, row):
        self.assertEqual(refusal(NoText, night_by, text).row, row, text)

    def test_of_anything(self):
        for thing in NO_TEXTS:
            before = copy.deepcopy(thing)
            self.wrong(thing, 0)
            self.assertEqual(thing, before)
        self.wrong(nested(30), 0)

    def test_first_lines(self):
        right = FIRST.split(" ")
        for number in range(len(right)):
            for word in ("", "a b", "-1", "x1", "A", "01", "99999999999", "~e", "17.", " ", "_"):
                self.wrong(" ".join(right[:number] + [word] + right[number + 1:]), 0)
            self.wrong(" ".join(right[:number] + right[number + 1:]), 0)
            self.wrong(" ".join(right[:number] + [right[number]] + right[number:]), 0)
        for text in ("", "\n", " ", FIRST + " ", " " + FIRST, FIRST + " 1", "\n" + FIRST, FIRST.upper(), "night",
                     FIRST.replace(" ", "  "), "Night times 2 16 12 4 4 5", "knight times 2 16 12 4 4 5",
                     "night timesofit 2 16 12 4 4 55", "night timesofday 2 16 12 4 4 5"):
            self.wrong(text, 0)

    def test_bounds_of_the_first_line(self):
        bounds = [(1, 6), (16, 40), (6, 60), None, (0, 6), (0, 9)]
        right = [2, 16, 12, 4, 4, 5]
        for number, bound in enumerate(bounds):
            for value in range(70):
                line = "night times " + " ".join(map(str, right[:number] + [value] + right[number + 1:]))
                if value in (4, 8, 12, 16) if bound is None else bound[0] <= value <= bound[1]:
                    self.assertEqual(night_text(night_by(line)), line)
                else:
                    self.wrong(line, 0)

    def test_empty_lines(self):
        self.wrong(FIRST + "\n", 1)
        self.wrong(text_of("lock 1") + "\n", 2)
        self.wrong(f"{FIRST}\n\n3 lock 1", 1)
        self.wrong(f"{FIRST}\n3 lock 1\n\n3 lock 1", 2)

    def test_one_thing_wrong_at_any_line(self):
        for number, line in enumerate(LINES):
            words = line.split(" ")
            wrong = [line + " ", " " + line, line + " ~", words[0], "x" + line, line.upper()]
            wrong += [line.replace(" ", "  ", 1)]
            if words[0] != "piece":
                wrong += [line + " A"]
            if words[0] not in ("piece", "fill", "late"):
                wrong += [" ".join(words[:-1]), line + " a", line + " 1"]
            for one in wrong:
                text = text_of(*LINES[:number], one, *LINES[number + 1:])
                self.wrong(text, number + 1)

    def test_what_is_not_written_so(self):
        ahead = [LINES[at] for at in (0, 1, 10, 11, 12, 13, 14)]
        for line in (
            "piece Fire 2 5 a b", "piece fire -1 5 a b", "piece fire 02 5 a b", "piece fire 2 05 a b",
            "piece fire 2 0 a b", "piece fire 2 10 a b", "piece fire 2 5 a", "piece fire 2 5", "piece fire 2 5 a ~e",
            "piece fire 2 5 a b/c", "piece fire 2 5 a _", "piece fire 2 5 a b c d e f", "piece fire 2 5 a~ b",
            "piece fire 2 5 a b~x", "piece abcdefghi 2 5 a b", "piece fire a 5 a b", "piece fire 10000000000 5 a b",
            "piece fire 2 5  b", "piece fire 2 5 a b ", "piece fire 2 5 { b", "piece fire 2 5 a aaaaaaaaaaaaaaaaa",
            "book hats 1 0 a", "book hats 1 3 a", "book hats 5 1 a", "book hats 0 1 a", "book hats 1 1",
            "book hats 1 1 ",
            "book hats 1 1 a b", "book Hats 1 1 a", "book hats a 1 a", "book hats 1 1 ~", "book hats 01 1 a",
            "unbook hats", "unbook", "unbook Hats", "unbook hats hats", "fill", "fill 1", "fill 1 ", "fill 1 2",
            "fill 5 0", "fill 1 0 fire fire", "fill 1 0 rain", "fill 1 0 Fire", "fill 1 0 fire  snow",
            "fill 1 0 a b c d e f g h i", "fill 1 00 fire", "fill a 0 fire", "late", "late 5", "late 1 fire snow",
            "late 1 rain", "late 1 Fire", "late 1 ", "late 01 fire", "late one fire", "lock", "lock 5", "lock 0",
            "lock 1 1", "lock 01", "lock a", "edition", "edition early", "edition Late", "edition late late",
            "run hoe early 1 5 1", "run hoe early 0 5 6", "run hoe late 0 5 1", "run Hoe early 0 5 1",
            "run hoe early 0 5", "run hoe early 0 5 1 1", "run hoe early 0 5 01", "run hoe early 0 -5 1",
            "want york ann late 5", "want york ann early", "want york ann early 5 5", "want york Ann early 5",
            "want york ann early 05", "want york ann early 10000000000", "want york ann early five", "", "piece",
            "night times 2 16 12 4 4 5", "out 0", "enter 3 lock 1",
        ):
            self.wrong(text_of(*ahead, line), 8)
            self.wrong(text_of(*ahead, line, "lock 1", "nonsense"), 8)

    def test_hours(self):
        for hour in ("24", "-1", "03", "a", "", " ", "3 3", "10000000000", "99", "3.", "~e"):
            self.wrong(f"{FIRST}\n3 lock 1\n{hour} lock 1", 2)
        self.wrong(f"{FIRST}\n24 lock 1", 1)
        self.wrong(f"{FIRST}\nlock 1", 1)

    def test_hours_that_fall(self):
        self.wrong(f"{FIRST}\n3 lock 1\n2 lock 1", 2)
        self.wrong(f"{FIRST}\n0 lock 1\n23 lock 1\n23 lock 1\n22 lock 1\n23 lock 1", 4)
        night_by(f"{FIRST}\n0 lock 1\n0 lock 1\n23 lock 1\n23 lock 1")

    def test_the_first_line_of_several(self):
        self.wrong(f"{FIRST}\n3 lock 9\n2 lock 1\n1 nonsense", 1)
        self.wrong(f"{FIRST}\n3 lock 1\n2 lock 1\n1 nonsense", 2)
        self.wrong(f"{FIRST}\n3 lock 1\n3 nonsense\n1 lock 1", 2)
        self.wrong("night times 2 16 12 4 4 10\n3 lock 9", 0)

    def test_refused_by_what_is_ahead(self):
        self.wrong(text_of("fill 1 0 fire", LINES[0]), 1)
        self.wrong(text_of(LINES[0], "fill 1 0 fire", "fill 1 1 fire"), 3)
        self.wrong(text_of("piece a 1 1 " + "/".join("abc" * 9) + " a", "lock 1", "late 1 a"), 3)
        self.wrong(text_of("edition early"), 1)
        self.wrong(text_of("book a 1 1 x", "book a 2 1 x"), 2)

    def test_other_line_feeds_and_blanks(self):
        for sign in ("\r", "\t", "\x0b", "\x1c", "\x85"):
            self.wrong(f"{FIRST}{sign}3 lock 1", 0)
            self.wrong(f"{FIRST}\n3 lock 1{sign}3 lock 1", 1)


class MadeAgain(unittest.TestCase):
    lines = ["0 piece a 1 5 one a", "1 fill 1 0 a", "2 lock 1", "4 piece a 1 5 two a", "5 lock 1", "5 book b 1 2 x",
             "5 lock 1", "7 lock 3"]

    def test_each_version(self):
        text = "\n".join([FIRST, *self.lines])
        night = night_by(text)
        told = [made_again(text, 1, version) for version in (1, 2, 3)]
        self.assertEqual(told, [night.page(hour, 1) for hour in (2, 4, 5)])
        self.assertEqual(len({str(page) for page in told}), 3)
        self.assertEqual(made_again(version=1, number=3, text=text), night.page(7, 3))

    def test_refused_as_reading_is_then_as_a_plate_is(self):
        text = "\n".join([FIRST, *self.lines])
        for number, version, wanted in ((0, 1, (0, 4)), (5, 9, (5, 4)), (1, 0, (0, 3)), (1, 4, (4, 3)), (2, 1, (1, 0))):
            met = refusal(NoPlace, made_again, text, number, version)
            self.assertEqual((met.number, met.many), wanted)
            self.assertEqual(refusal(NoText, made_again, text + "\n", number, version).row, 9)
        for thing in (None, 5, [], "", "night"):
            self.assertEqual(refusal(NoText, made_again, thing, 9, 9).row, 0)

    def test_without_entries(self):
        met = refusal(NoPlace, made_again, FIRST, 1, 1)
        self.assertEqual((met.number, met.many), (1, 0))
