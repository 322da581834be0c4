"""Pieces (points 2 and 13)."""

import unittest

from nightpaper.errors import NoCopy
from nightpaper.pieces import Piece
from tests.things import NO_TEXTS, ODD_TEXTS, refusal

VALUES = {
    "name": "snow", "heads": ("Snow falls", "Snow"), "body": "It {up fell} all night.", "least": 3, "rank": 1,
    "most": 4, "spaced": True,
}
OTHERWISE = {
    "name": "rain", "heads": ("Snow falls", "snow"), "body": "It {low fell} all night.", "least": 2, "rank": 9,
    "most": 1, "spaced": False,
}


def values_of(piece):
    return {name: getattr(piece, name) for name in VALUES}


class Made(unittest.TestCase):
    def test_by_places(self):
        self.assertEqual(values_of(Piece(*VALUES.values())), VALUES)

    def test_by_names(self):
        self.assertEqual(values_of(Piece(**VALUES)), VALUES)
        self.assertEqual(values_of(Piece(**dict(reversed(VALUES.items())))), VALUES)

    def test_left_out(self):
        piece = Piece("snow", ("Snow",), "It fell.")
        self.assertEqual(values_of(piece), {
            "name": "snow", "heads": ("Snow",), "body": "It fell.", "least": 2, "rank": 5, "most": 2, "spaced": False,
        })
        for name in ("least", "rank", "most", "spaced"):
            told = {key: value for key, value in VALUES.items() if key != name}
            left_out = {"least": 2, "rank": 5, "most": 2, "spaced": False}[name]
            self.assertEqual(values_of(Piece(**told)), {**VALUES, name: left_out})

    def test_the_kinds_of_its_values(self):
        piece = Piece(**VALUES)
        kinds = [type(getattr(piece, name)) for name in VALUES]
        self.assertEqual(kinds, [str, tuple, str, int, int, int, bool])

    def test_the_bounds(self):
        heads = ("a" * 100, "b " * 50, " c", "d")
        body = "{up " + "x" * 1995 + "}"
        piece = Piece("a", heads, body, 0, 9, 1, True)
        self.assertEqual((piece.heads, piece.body, piece.least), (heads, body, 0))
        self.assertEqual(Piece("abcdefgh", ("a",), "", 10 ** 6).least, 10 ** 6)

    def test_no_marked_copy(self):
        for body, at in (("}", 0), ("{us}", 2), ("{up}", 3), ("{up", 3), ("a {up b", 7), ("a}b", 1), ("{up a}}", 6)):
            self.assertEqual(refusal(NoCopy, Piece, "a", ("A",), body).at, at)
            self.assertEqual(refusal(NoCopy, Piece, body=body, heads=("A",), name="a", least=0).at, at)

    def test_groups_within_one_another(self):
        self.assertEqual(len(Piece("a", ("A",), "{up " * 8 + "a" + "}" * 8)), 1)
        self.assertEqual(refusal(NoCopy, Piece, "a", ("A",), "{up " * 9 + "a" + "}" * 9).at, 32)

    def test_braces_in_headings_are_signs_as_any(self):
        self.assertEqual(str(Piece("a", ("{us}", "}"), "b")), "{us}")

    def test_each_method_is_the_class_s_own(self):
        for name in ("__init__", "__eq__", "__len__", "__str__"):
            self.assertIn(name, vars(Piece))


class Asked(unittest.TestCase):
    def test_alike(self):
        self.assertTrue(Piece(**VALUES) == Piece(**VALUES))
        self.assertFalse(Piece(**VALUES) != Piece(**VALUES))
        piece = Piece(**VALUES)
        self.assertTrue(piece == piece)
        self.assertEqual(Piece("a", ("A",), "b"), Piece("a", ("A",), "b", 2, 5, 2, False))

    def test_one_thing_otherwise(self):
        self.assertEqual(set(OTHERWISE), set(VALUES))
        for name, value in OTHERWISE.items():
            other = Piece(**{**VALUES, name: value})
            self.assertFalse(Piece(**VALUES) == other, name)
            self.assertFalse(other == Piece(**VALUES), name)
            self.assertTrue(Piece(**VALUES) != other, name)

    def test_like_plain_texts_are_not_enough(self):
        self.assertNotEqual(Piece("a", ("A",), "{up b}"), Piece("a", ("A",), "B"))

    def test_heads_in_another_order_or_more_of_them(self):
        for heads in (("Snow", "Snow falls"), ("Snow falls",), ("Snow falls", "Snow", "Snow")):
            self.assertNotEqual(Piece(**VALUES), Piece(**{**VALUES, "heads": heads}))

    def test_other_things(self):
        piece = Piece("a", ("a",), "a")
        for thing in [*NO_TEXTS, *ODD_TEXTS, "a", ("a", ("a",), "a"), ("a", ("a",), "a", 2, 5, 2, False)]:
            self.assertIs(piece == thing, False)
            self.assertIs(thing == piece, False)
            self.assertIs(piece != thing, True)

    def test_length(self):
        for body, many in (
            ("", 0), (" ", 0), ("\n \n", 0), ("{up }", 0), ("{up {low  }}", 0), ("a", 1), ("a b", 2), ("  a   b ", 2),
            ("a\nb", 2), ("\na b\n\n c\n", 3), ("a{up b}c", 1), ("a{up  b}c", 2), ("{up a b} c", 3), ("{quote }", 1),
            ("a {quote } b", 3), ("{quote a} {low B}", 2), ("{up a}{low B}", 1), ("- - -", 3), ("x" * 2000, 1),
            ("x " * 1000, 1000),
        ):
            piece = Piece("a", ("A",), body)
            self.assertEqual(len(piece), many, body)
            self.assertIs(bool(piece), many > 0)

    def test_text(self):
        self.assertEqual(str(Piece(**VALUES)), "Snow falls")
        self.assertEqual(str(Piece("a", ("  Late   news ", "News"), "b")), "  Late   news ")
        self.assertIs(type(str(Piece(**VALUES))), str)
        # A heading that fits no width is its text all the same.
        self.assertEqual(str(Piece("a", ("x" * 100, "x"), "b")), "x" * 100)
