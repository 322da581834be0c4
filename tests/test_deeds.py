"""The nine deeds, and what is none of them, of anything (points 2, 28 and 29)."""

import copy
import unittest

from nightpaper.deeds import ask_entry, is_deed
from nightpaper.errors import NoDeed, NoHour
from tests.things import NO_TEXTS, ODD_TEXTS, nested, refusal

PIECE = ("piece", "fire", ("Fire at the mill", "Fire"), "The {up mill} burns.\nIt burns.", 2, 5)
BOOK = ("book", "hats", 1, 2, "Hats\nfor all heads")
FILL = ("fill", 1, 0, ("fire", "snow"))
LATE = ("late", 1, ("fire",))
RUN = ("run", "hoe", "early", 0, 100, 3)
WANT = ("want", "york", "ann", "early", 70)
DEEDS = [PIECE, BOOK, ("unbook", "hats"), FILL, LATE, ("lock", 1), ("edition", "early"), RUN, WANT]

NO_NAMES = ["", "abcdefghi", "Fire", "fIre", "fire\n", "\nfire", "fi re", "fire ", " fire", "fire1", "-", "a_b", "~e"]
NO_WHOLES = [True, False, None, "1", "", (1,), [1], {1: 1}, {}, (), [], ((),)]
NO_TUPLES = [None, True, 1, "", "fire", [], ["fire"], {}, {"fire": 1}, [("fire",)], {0: "fire"}]
NO_STRINGS = [None, True, False, 0, 1, (), ("a",), [], ["a"], {}, {"a": "a"}, nested(28)]


def changed(deed, at, part):
    """A deed with another part at a place."""
    return deed[:at] + (part,) + deed[at + 1:]


class Right(unittest.TestCase):
    def right(self, deed):
        self.assertIs(is_deed(deed), True, deed)
        ask_entry(0, deed)
        ask_entry(23, deed)

    def test_each_of_the_nine(self):
        for deed in DEEDS:
            self.right(deed)
        self.assertEqual(len({deed[0] for deed in DEEDS}), 9)

    def test_names_of_one_letter_and_of_eight(self):
        for name in ("a", "z", "abcdefgh"):
            for deed, places in (
                (PIECE, (1,)), (BOOK, (1,)), (("unbook", "a"), (1,)), (("edition", "a"), (1,)), (RUN, (1, 2)),
                (WANT, (1, 2, 3)),
            ):
                for at in places:
                    self.right(changed(deed, at, name))
            self.right(changed(FILL, 3, (name,)))
            self.right(changed(LATE, 2, (name,)))

    def test_heads(self):
        for heads in (("a",), ("a", "b", "c", "d"), ("a", "a"), ("  a  b  ",), ("x" * 300,), ("~_/ {up}",), ("0",)):
            self.right(changed(PIECE, 2, heads))

    def test_texts(self):
        # What is no marked copy is a deed all the same: it is refused where it is done.
        for text in [*ODD_TEXTS, "x" * 5000, "\n\n", "{up", "}"]:
            self.right(changed(PIECE, 3, text))
            self.right(changed(BOOK, 4, text))

    def test_numbers_beyond_all_bounds(self):
        for number in (-10 ** 5000, -1, 0, 1, 99, 10 ** 9, 10 ** 5000):
            self.right(changed(BOOK, 2, number))
            self.right(changed(FILL, 1, number))
            self.right(changed(FILL, 2, number))
            self.right(changed(LATE, 1, number))
            self.right(("lock", number))
            self.right(changed(RUN, 3, number))

    def test_counts_from_nought_on(self):
        for number in (0, 1, 10 ** 6, 10 ** 6 + 1, 10 ** 5000):
            self.right(changed(PIECE, 4, number))
            self.right(changed(RUN, 4, number))
            self.right(changed(RUN, 5, number))
            self.right(changed(WANT, 4, number))

    def test_spans_from_one_on_and_ranks_to_nine(self):
        for span in (1, 6, 7, 10 ** 5000):
            self.right(changed(BOOK, 3, span))
        for rank in range(1, 10):
            self.right(changed(PIECE, 5, rank))

    def test_names_of_fill_and_late(self):
        for names in ((), ("a",), tuple("abcdefgh"), ("a", "a"), ("a",) * 8):
            self.right(changed(FILL, 3, names))
        for names in ((), ("a",)):
            self.right(changed(LATE, 2, names))


class Wrong(unittest.TestCase):
    def wrong(self, deed):
        before = copy.deepcopy(deed)
        self.assertIs(is_deed(deed), False, deed)
        refusal(NoDeed, ask_entry, 0, deed)
        self.assertEqual(deed, before)

    def test_one_part_more_or_fewer(self):
        for deed in DEEDS:
            self.wrong(deed[:-1])
            self.wrong(deed[:1])
            for more in ("a", 0, (), "", None):
                self.wrong(deed + (more,))

    def test_a_list_in_the_place_of_a_tuple(self):
        for deed in DEEDS:
            self.wrong(list(deed))
            self.wrong((deed,))
            self.wrong([deed])
        self.wrong(changed(PIECE, 2, ["Fire"]))
        self.wrong(changed(FILL, 3, ["fire"]))
        self.wrong(changed(FILL, 3, []))
        self.wrong(changed(LATE, 2, ["fire"]))
        self.wrong(changed(LATE, 2, []))

    def test_other_words(self):
        for word in [*ODD_TEXTS, *NO_STRINGS, "Piece", "piece ", "books", "fills", "night", "out", "pieces"]:
            for deed in DEEDS:
                self.wrong(changed(deed, 0, word))

    def test_one_deed_s_word_with_another_one_s_parts(self):
        for deed in DEEDS:
            for other in DEEDS:
                if {deed[0], other[0]} not in ({"unbook", "edition"}, {deed[0]}):
                    self.wrong(changed(deed, 0, other[0]))

    def test_what_is_no_name(self):
        for thing in [*NO_NAMES, *NO_STRINGS]:
            for deed, places in (
                (PIECE, (1,)), (BOOK, (1,)), (("unbook", "a"), (1,)), (("edition", "a"), (1,)), (RUN, (1, 2)),
                (WANT, (1, 2, 3)),
            ):
                for at in places:
                    self.wrong(changed(deed, at, thing))
            self.wrong(changed(FILL, 3, (thing,)))
            self.wrong(changed(FILL, 3, ("a", thing, "b")))
            self.wrong(changed(LATE, 2, (thing,)))

    def test_what_is_no_whole_number(self):
        for thing in NO_WHOLES:
            for deed, places in ((PIECE, (4, 5)), (BOOK, (2, 3)), (FILL, (1, 2)), (LATE, (1,)), (("lock", 1), (1,)),
                                 (RUN, (3, 4, 5)), (WANT, (4,))):
                for at in places:
                    self.wrong(changed(deed, at, thing))

    def test_what_is_no_text(self):
        for thing in NO_STRINGS:
            self.wrong(changed(PIECE, 3, thing))
            self.wrong(changed(BOOK, 4, thing))

    def test_heads(self):
        self.wrong(changed(PIECE, 2, ()))
        self.wrong(changed(PIECE, 2, ("a",) * 5))
        for head in ["", " ", "   ", "a\nb", "a\n", "\na", "\n", *NO_STRINGS]:
            self.wrong(changed(PIECE, 2, (head,)))
            self.wrong(changed(PIECE, 2, ("a", head)))
            self.wrong(changed(PIECE, 2, (head, "a", "b", "c")))
        for thing in NO_TUPLES:
            self.wrong(changed(PIECE, 2, thing))

    def test_names_of_fill_and_late(self):
        self.wrong(changed(FILL, 3, tuple("abcdefghi")))
        self.wrong(changed(LATE, 2, ("a", "b")))
        self.wrong(changed(LATE, 2, ("a", "a")))
        for thing in NO_TUPLES:
            self.wrong(changed(FILL, 3, thing))
            self.wrong(changed(LATE, 2, thing))

    def test_below_and_above_the_bounds(self):
        for number in (-1, -10 ** 5000):
            self.wrong(changed(PIECE, 4, number))
            self.wrong(changed(RUN, 4, number))
            self.wrong(changed(RUN, 5, number))
            self.wrong(changed(WANT, 4, number))
        for rank in (0, 10, -1, 10 ** 5000):
            self.wrong(changed(PIECE, 5, rank))
        for span in (0, -1, -10 ** 5000):
            self.wrong(changed(BOOK, 3, span))

    def test_things_of_all_other_kinds(self):
        for thing in [*NO_TEXTS, *ODD_TEXTS, "lock", "lock 1", ("lock",), {"lock": 1}, ["lock", 1], (("lock", 1),)]:
            self.wrong(thing)
        for times in range(31):
            self.wrong(nested(times))
            self.wrong((nested(min(times, 29)),))


class Hours(unittest.TestCase):
    def test_no_hour_ahead_of_no_deed(self):
        for hour in [-1, 24, 10 ** 5000, True, False, None, "0", "", (), (0,), [0], {0: 0}, nested(30)]:
            for deed in [*DEEDS, *NO_TEXTS, *ODD_TEXTS]:
                refusal(NoHour, ask_entry, hour, deed)

    def test_hours(self):
        for hour in range(24):
            ask_entry(hour, ("lock", 1))
            refusal(NoDeed, ask_entry, hour, ("lock", "1"))
