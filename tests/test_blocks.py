"""Blocks (points 2 and 10)."""

import unittest

from nightpaper.blocks import Block, above, beside, framed
from nightpaper.errors import Unlike
from tests.things import NO_TEXTS, ODD_TEXTS, refusal


class Made(unittest.TestCase):
    def test_blanks_behind_to_the_width(self):
        block = Block(["a", "", "abc", " b"], 3)
        self.assertEqual(block.lines(), ["a  ", "   ", "abc", " b "])
        self.assertIs(type(block.lines()), list)
        self.assertEqual(block.wide, 3)

    def test_no_rows(self):
        for wide in (0, 1, 7, 260):
            block = Block([], wide)
            self.assertEqual(block.lines(), [])
            self.assertEqual(block.wide, wide)

    def test_width_nought(self):
        self.assertEqual(Block(["", ""], 0).lines(), ["", ""])
        met = refusal(Unlike, Block, ["", "a"], 0)
        self.assertEqual((met.one, met.other), (1, 0))

    def test_a_longer_row(self):
        met = refusal(Unlike, Block, ["abcd"], 3)
        self.assertEqual((met.one, met.other), (4, 3))
        met = refusal(Unlike, Block, ["abc", "a", "abcdef", "abcd", "abcdefgh"], 3)
        self.assertEqual((met.one, met.other), (6, 3))
        met = refusal(Unlike, Block, ["a   "], 3)
        self.assertEqual((met.one, met.other), (4, 3))

    def test_what_is_kept_is_a_copy(self):
        rows = ["a", "b"]
        block = Block(rows, 2)
        self.assertEqual(rows, ["a", "b"])
        rows.append("ccc")
        rows[0] = "x"
        self.assertEqual(block.lines(), ["a ", "b "])
        self.assertEqual(len(block), 2)

    def test_what_is_told_is_the_asker_s_own(self):
        block = Block(["a", "b"], 2)
        told = block.lines()
        told.append("c")
        told[0] = "x"
        self.assertEqual(block.lines(), ["a ", "b "])
        self.assertEqual(str(block), "a \nb ")
        self.assertEqual(block, Block(["a", "b"], 2))
        self.assertIsNot(block.lines(), block.lines())

    def test_each_method_is_the_class_s_own(self):
        for name in ("__init__", "__eq__", "__len__", "__str__", "__repr__", "lines"):
            self.assertIn(name, vars(Block))


class Asked(unittest.TestCase):
    def alike(self, one, other):
        self.assertIs(one == other, True)
        self.assertIs(other == one, True)
        self.assertIs(one != other, False)

    def unlike(self, one, other):
        self.assertIs(one == other, False)
        self.assertIs(other == one, False)
        self.assertIs(one != other, True)

    def test_alike(self):
        block = Block(["a", "b"], 2)
        self.alike(block, block)
        self.alike(block, Block(["a", "b"], 2))
        self.alike(block, Block(["a ", "b "], 2))
        self.alike(Block([], 3), Block([], 3))

    def test_unlike(self):
        block = Block(["a", "b"], 2)
        for other in (Block(["a", "b"], 3), Block(["a"], 2), Block(["b", "a"], 2), Block(["a", "b", ""], 2),
                      Block([], 2), Block(["a", " b"], 2), Block(["a ", "B"], 2)):
            self.unlike(block, other)
        self.unlike(Block([], 3), Block([], 4))
        self.unlike(Block([""], 0), Block([], 0))

    def test_other_things(self):
        for block in (Block([], 0), Block(["a", "b"], 1), Block([""], 0)):
            told = [block.lines(), tuple(block.lines()), str(block), repr(block), len(block)]
            for thing in NO_TEXTS + ODD_TEXTS + told:
                self.unlike(block, thing)

    def test_other_things_of_like_fields(self):
        class Other:
            def __init__(self):
                self.rows, self.wide = ("a",), 1

            def lines(self):
                return ["a"]

        self.unlike(Block(["a"], 1), Other())

    def test_length_and_truth(self):
        for many in range(4):
            for wide in (0, 5):
                block = Block([""] * many, wide)
                self.assertEqual(len(block), many)
                self.assertIs(bool(block), many > 0)

    def test_text(self):
        self.assertEqual(str(Block([], 3)), "")
        self.assertEqual(str(Block(["a"], 3)), "a  ")
        self.assertEqual(str(Block(["a", "", "b"], 2)), "a \n  \nb ")
        self.assertEqual(str(Block(["", ""], 0)), "\n")

    def test_shown(self):
        self.assertEqual(repr(Block([], 0)), "Block(0 by 0)")
        self.assertEqual(repr(Block(["a", "b"], 7)), "Block(2 by 7)")
        self.assertEqual(repr(Block([""] * 12, 260)), "Block(12 by 260)")
        self.assertEqual(f"{[Block(['a'], 1)]}", "[Block(1 by 1)]")


class Joined(unittest.TestCase):
    def told(self, block, rows, wide):
        self.assertIs(type(block), Block)
        self.assertEqual(block.lines(), rows)
        self.assertEqual(block.wide, wide)

    def test_beside_of_like_heights(self):
        self.told(beside(Block(["a", "b"], 2), Block(["c", "d"], 1), "|"), ["a |c", "b |d"], 4)

    def test_beside_with_the_rule_left_out(self):
        self.told(beside(Block(["a"], 1), Block(["b"], 1)), ["a | b"], 5)

    def test_beside_of_unlike_heights(self):
        high, low = Block(["a", "b", "c"], 2), Block(["d"], 3)
        self.told(beside(high, low, "#"), ["a #d  ", "b #   ", "c #   "], 6)
        self.told(beside(low, high, "#"), ["d  #a ", "   #b ", "   #c "], 6)
        self.told(beside(high, Block([], 2), "#"), ["a #  ", "b #  ", "c #  "], 5)
        self.told(beside(Block([], 1), high), ["  | a ", "  | b ", "  | c "], 6)
        self.told(beside(Block([], 0), high, ""), ["a ", "b ", "c "], 2)

    def test_beside_with_any_rule(self):
        for rule in ("", " ", "|", " | ", "--------", "a b"):
            self.told(beside(Block(["x"], 1), Block(["y"], 2), rule), ["x" + rule + "y "], 3 + len(rule))

    def test_beside_of_no_rows(self):
        self.told(beside(Block([], 2), Block([], 3)), [], 8)
        self.told(beside(Block([], 0), Block([], 0), ""), [], 0)

    def test_above(self):
        self.told(above(Block(["a"], 2), Block(["b", "c"], 2)), ["a ", "b ", "c "], 2)
        self.told(above(Block([], 2), Block(["b"], 2)), ["b "], 2)
        self.told(above(Block(["b"], 2), Block([], 2)), ["b "], 2)
        self.told(above(Block([], 2), Block([], 2)), [], 2)

    def test_above_of_unlike_widths(self):
        for upper, lower in ((2, 3), (3, 2), (0, 1), (7, 0)):
            for rows in ([], [""]):
                met = refusal(Unlike, above, Block(rows, upper), Block(rows, lower))
                self.assertEqual((met.one, met.other), (upper, lower))

    def test_framed(self):
        self.told(framed(Block(["a", "", "bcd"], 3)), ["+-----+", "| a   |", "|     |", "| bcd |", "+-----+"], 7)
        self.told(framed(Block([], 3)), ["+-----+", "+-----+"], 7)
        self.told(framed(Block([], 0)), ["+--+", "+--+"], 4)
        self.told(framed(Block([""], 0)), ["+--+", "|  |", "+--+"], 4)

    def test_what_is_joined_stays(self):
        one, other = Block(["a", "b"], 2), Block(["c"], 2)
        for block in (beside(one, other), above(one, other), framed(one), framed(other)):
            block.lines().append("x")
        self.told(one, ["a ", "b "], 2)
        self.told(other, ["c "], 2)
