"""Needed rows and columns (points 2, 13 and 14)."""

import copy
import random
import unittest

from nightpaper.blocks import Block
from nightpaper.columns import column_of, needed
from nightpaper.errors import NoFit
from nightpaper.heads import first_head
from nightpaper.markup import plain
from nightpaper.pieces import Piece
from nightpaper.setting import set_rows
from tests.things import refusal


def piece(name, body=5, least=2, rank=5, head=1):
    """A piece of so many rows of body and of heading, in any width from 4 to 7."""
    return Piece(name, (" ".join([name * 4] * head),), "\n".join(name * body), least, rank, 4)


def plainly(pieces, wide, room):
    """What column_of tells, found row by row."""
    ones = []
    for place, one in enumerate(pieces):
        head = first_head(one.heads, wide, one.most, one.spaced)[1]
        ones.append({"place": place, "piece": one, "head": head, "body": set_rows(plain(one.body), wide, True, 0)})
    for one in ones:
        one["many"] = 0
        while one["many"] < one["piece"].least and one["many"] < len(one["body"]):
            one["many"] += 1

    def rows():
        told = []
        for number, one in enumerate(ones):
            told += ["-" * wide] * (number > 0)
            one["row"] = len(told)
            told += one["head"] + one["body"][:one["many"]]
        return told

    left = []
    while len(rows()) > room:
        ranks = [one["piece"].rank for one in ones]
        last = len(ranks) - 1 - ranks[::-1].index(max(ranks))
        left.append(ones.pop(last)["piece"].name)
    for rank in range(1, 10):
        for one in ones:
            while one["piece"].rank == rank and one["many"] < len(one["body"]) and len(rows()) < room:
                one["many"] += 1
    told = [row.ljust(wide) for row in rows()]
    told += [" " * wide] * (room - len(told))
    return told, [(one["piece"].name, one["row"], len(one["head"]), one["many"]) for one in ones], left


class Needed(unittest.TestCase):
    def test_a_body_of_fewer_rows_than_least(self):
        self.assertEqual(needed(piece("a", 3, 4), 4), 1 + 3)
        self.assertEqual(needed(piece("a", 3, 10 ** 6), 4), 1 + 3)
        self.assertEqual(needed(piece("a", 0, 4), 4), 1)

    def test_a_body_of_just_as_many(self):
        self.assertEqual(needed(piece("a", 4, 4), 4), 1 + 4)

    def test_a_body_of_more(self):
        self.assertEqual(needed(piece("a", 5, 4), 4), 1 + 4)
        self.assertEqual(needed(piece("a", 1000, 4), 4), 1 + 4)

    def test_least_nought(self):
        self.assertEqual(needed(piece("a", 5, 0), 4), 1)
        self.assertEqual(needed(piece("a", 0, 0), 4), 1)

    def test_least_left_out_is_two(self):
        self.assertEqual(needed(Piece("a", ("A",), "a\nb\nc"), 4), 3)

    def test_rows_of_the_heading(self):
        for head in (1, 2, 3, 4):
            self.assertEqual(needed(piece("a", 5, 2, 5, head), 4), head + 2)

    def test_the_first_head_that_fits(self):
        one = Piece("a", ("abcdefghij", "ab cd ef gh", "ab cd"), "x y", 1, 5, 2)
        # 10: the first one; 5: the second one, of two rows; 4: the last one.
        self.assertEqual([needed(one, wide) for wide in (10, 9, 5, 4)], [2, 3, 3, 3])
        self.assertEqual(needed(Piece("a", ("abcdefghij", "abc"), "x", 1), 4), 2)

    def test_by_its_most_and_spaced(self):
        told = {"name": "a", "heads": ("ab cd",), "body": "x", "least": 0}
        self.assertEqual(needed(Piece(**told, most=1), 5), 1)
        self.assertEqual(needed(Piece(**told, most=2, spaced=True), 5), 2)
        self.assertEqual(needed(Piece(**told, most=1, spaced=True), 9), 1)
        self.assertEqual(refusal(NoFit, needed, Piece(**told, most=1, spaced=True), 8).rows, 2)
        self.assertEqual(refusal(NoFit, needed, Piece(**told, most=1), 4).rows, 2)

    def test_none_of_the_heads_fits(self):
        self.assertIsNone(refusal(NoFit, needed, Piece("a", ("abcdef", "abcde"), ""), 4).rows)
        heads = ("abcde", "a b c d e f g h i j", "a b c d e f g")
        self.assertEqual(refusal(NoFit, needed, Piece("a", heads, "", 2, 5, 3), 4).rows, 4)

    def test_the_body_is_plain_and_set_full_without_a_gap(self):
        self.assertEqual(needed(Piece("a", ("A",), "{quote ab}\n\n{up c}", 9), 4), 3)
        # As it is marked it would have more rows; by a gap, too.
        self.assertEqual(needed(Piece("a", ("A",), "{up a}{low B}{up c}\nd", 9), 4), 3)

    def test_the_widest(self):
        self.assertEqual(needed(Piece("a", ("a " * 50,), "b " * 1000, 2000, 5, 1), 260), 1 + 8)

    def test_a_whole_number(self):
        self.assertIs(type(needed(piece("a"), 4)), int)


class Column(unittest.TestCase):
    def told(self, rows, stands, left, pieces, wide, room):
        told = column_of(pieces, wide, room)
        self.assertIs(type(told), tuple)
        self.assertEqual([type(part) for part in told], [Block, list, list])
        self.assertTrue(all(type(one) is tuple for one in told[1]))
        self.assertEqual(told[0].lines(), [row.ljust(wide) for row in rows])
        self.assertEqual(told[0].wide, wide)
        self.assertEqual(told[1:], (stands, left))

    def test_no_pieces(self):
        self.told([], [], [], [], 4, 0)
        self.told([""] * 3, [], [], [], 4, 3)

    def test_one(self):
        one = Piece("snow", ("Snow falls",), "It fell all {up night} long.", 1)
        self.told(
            ["Snow falls", "It fell all", "NIGHT long.", ""], [("snow", 0, 1, 2)], [], [one], 11, 4)
        self.told(
            ["  Snow", "  falls", "It   fell", "all NIGHT", "long."], [("snow", 0, 2, 3)], [], [one], 9, 5)

    def test_rows_of_a_body_that_do_not_stand_are_its_last_ones(self):
        one = Piece("snow", ("Snow",), "one\ntwo\nthree\nfour", 1)
        for room in range(2, 6):
            rows = ["Snow ", "one", "two", "three", "four"][:room]
            self.told(rows, [("snow", 0, 1, room - 1)], [], [one], 5, room)

    def test_room_just_enough_one_row_less_and_nought(self):
        one = piece("a", 5, 2)
        self.told(["aaaa", "a", "a"], [("a", 0, 1, 2)], [], [one], 4, 3)
        self.told([""] * 2, [], ["a"], [one], 4, 2)
        self.told([], [], ["a"], [one], 4, 0)

    def test_a_row_between_any_two_counts(self):
        pair = [piece("a", 1, 1, 3), piece("b", 1, 1, 2)]
        self.told(["aaaa", "a", "----", "bbbb", "b"], [("a", 0, 1, 1), ("b", 3, 1, 1)], [], pair, 4, 5)
        self.told(["bbbb", "b", "", ""], [("b", 0, 1, 1)], ["a"], pair, 4, 4)

    def test_blanks_below(self):
        pair = [piece("a", 1), piece("b", 0)]
        self.told(["aaaa", "a", "----", "bbbb", "", ""], [("a", 0, 1, 1), ("b", 3, 1, 0)], [], pair, 4, 6)

    def test_who_leaves(self):
        # The greatest rank, whatever its place; each has one row.
        ones = [piece("a", 0, 0, 4), piece("b", 0, 0, 9), piece("c", 0, 0, 1), piece("d", 0, 0, 8)]
        self.assertEqual([column_of(ones, 4, room)[2] for room in (7, 6, 5, 4, 3, 2, 1, 0)], [
            [], ["b"], ["b"], ["b", "d"], ["b", "d"], ["b", "d", "a"], ["b", "d", "a"], ["b", "d", "a", "c"],
        ])

    def test_of_like_ranks_the_last_leaves(self):
        ones = [piece(name, 0, 0, 5) for name in "abcd"]
        self.assertEqual([column_of(ones, 4, room)[2] for room in (7, 5, 3, 1, 0)], [
            [], ["d"], ["d", "c"], ["d", "c", "b"], ["d", "c", "b", "a"],
        ])
        ones = [piece(name, 0, 0, rank) for name, rank in (("a", 5), ("b", 7), ("c", 7), ("d", 5))]
        self.assertEqual(column_of(ones, 4, 0)[2], ["c", "b", "d", "a"])

    def test_a_lighter_one_leaves_though_a_graver_one_has_no_room_then_either(self):
        ones = [piece("a", 20, 20, 1), piece("b", 0, 0, 9)]
        self.told([""] * 10, [], ["b", "a"], ones, 4, 10)

    def test_by_needed_rows_alone(self):
        # Rows of bodies beyond least are no reason to leave.
        ones = [piece("a", 500, 1, 1), piece("b", 500, 1, 9)]
        self.told(
            ["aaaa", "a", "a", "----", "bbbb", "b"], [("a", 0, 1, 2), ("b", 4, 1, 1)], [], ones, 4, 6)

    def test_rows_that_are_left_go_by_rank(self):
        ones = [piece("a", 4, 1, 6), piece("b", 3, 1, 2), piece("c", 9, 0, 4)]

        def bodies(room):
            return [one[3] for one in column_of(ones, 4, room)[1]]

        # 7 rows are needed, with those between.
        self.assertEqual(bodies(7), [1, 1, 0])
        self.assertEqual(bodies(8), [1, 2, 0])
        self.assertEqual(bodies(9), [1, 3, 0])
        self.assertEqual(bodies(10), [1, 3, 1])
        self.assertEqual(bodies(18), [1, 3, 9])
        self.assertEqual(bodies(19), [2, 3, 9])
        self.assertEqual(bodies(30), [4, 3, 9])

    def test_of_like_ranks_the_first_takes(self):
        ones = [piece("a", 3, 1, 5), piece("b", 3, 1, 5)]
        bodies = [[one[3] for one in column_of(ones, 4, room)[1]] for room in (5, 6, 7, 8, 9, 10)]
        self.assertEqual(bodies, [[1, 1], [2, 1], [3, 1], [3, 2], [3, 3], [3, 3]])

    def test_rows_of_those_that_left_are_taken(self):
        ones = [piece("a", 9, 1, 5), piece("b", 9, 9, 6)]
        self.told(["aaaa"] + ["a"] * 8, [("a", 0, 1, 8)], ["b"], ones, 4, 9)

    def test_eight(self):
        ones = [piece(name, 2, 1, rank) for name, rank in zip("abcdefgh", (3, 1, 4, 1, 5, 9, 2, 6))]
        block, stands, left = column_of(ones, 4, 30)
        self.assertEqual(left, [])
        self.assertEqual([one[0] for one in stands], list("abcdefgh"))
        self.assertEqual([one[3] for one in stands], [2, 2, 2, 2, 2, 1, 2, 2])
        self.assertEqual(block.lines().count("----"), 7)
        self.assertEqual(column_of(ones, 4, 22)[2], ["f"])
        self.assertEqual(column_of(ones, 4, 0)[2], ["f", "h", "e", "c", "a", "g", "d", "b"])

    def test_like_names(self):
        ones = [piece("a", 1, 1, 5), piece("a", 2, 2, 7), piece("a", 3, 3, 5)]
        self.told(
            ["aaaa", "a", "----", "aaaa", "a", "a", "a", ""], [("a", 0, 1, 1), ("a", 3, 1, 3)], ["a"], ones, 4, 8)

    def test_one_piece_twice(self):
        one = piece("a", 3, 1)
        self.told(
            ["aaaa", "a", "a", "----", "aaaa", "a"], [("a", 0, 1, 2), ("a", 4, 1, 1)], [], [one, one], 4, 6)
        self.told(["aaaa", "a", "a", "a"], [("a", 0, 1, 3)], ["a"], [one, one], 4, 4)
        self.told([], [], ["a", "a", "a"], [one, one, one], 4, 0)

    def test_heads_of_several_rows(self):
        ones = [piece("a", 1, 1, 5, 3), piece("b", 1, 1, 5, 4)]
        rows = ["aaaa"] * 3 + ["a", "----"] + ["bbbb"] * 4 + ["b"]
        self.told(rows, [("a", 0, 3, 1), ("b", 5, 4, 1)], [], ones, 4, 10)

    def test_no_fit_of_the_first_piece(self):
        fits = piece("a", 1, 1, 1)
        long = Piece("b", ("abcdefgh",), "x", 1, 9)
        high = Piece("c", ("a b c d e",), "x", 1, 9, 1)
        self.assertIsNone(refusal(NoFit, column_of, [fits, long, high], 4, 20).rows)
        self.assertEqual(refusal(NoFit, column_of, [fits, high, long], 4, 20).rows, 3)

    def test_no_fit_of_one_that_would_leave(self):
        fits = piece("a", 1, 1, 1)
        high = Piece("c", ("a b c d e",), "x", 1, 9, 1)
        for room in (0, 1, 2, 3, 50):
            self.assertEqual(refusal(NoFit, column_of, [fits, high], 4, room).rows, 3)
            self.assertEqual(refusal(NoFit, column_of, [high, fits], 4, room).rows, 3)

    def test_what_is_handed_in_stays_and_what_is_told_is_new(self):
        pieces = [piece("a", 3), piece("b", 20, 20, 7)]
        before = copy.deepcopy(pieces)
        block, stands, left = column_of(pieces, 4, 10)
        self.assertEqual(pieces, before)
        shown = (str(block), list(stands), list(left))
        stands.append("x")
        stands[0] = "y"
        left.clear()
        block.lines().clear()
        again = column_of(pieces, 4, 10)
        self.assertEqual((str(again[0]), again[1], again[2]), shown)
        pieces.clear()
        self.assertEqual(str(block), shown[0])

    def test_held_against_a_plain_finding(self):
        chance = random.Random(14)
        words = "a bb ccc dddd eeeee ffffff ggggggggggggggg {up h} {quote i\nj} \n k".split(" ")
        for _turn in range(500):
            pieces = []
            for _piece in range(chance.randrange(9)):
                body = " ".join(chance.choice(words[:7]) for _word in range(chance.randrange(30)))
                body += chance.choice(["", " {up h}", "\n{quote i\nj}"])
                many = [chance.randrange(1, 10) for _head in range(chance.randrange(1, 4))]
                heads = (*[" ".join("abcdefghi"[:words]) for words in many], "a")
                pieces.append(Piece(
                    chance.choice("abc"), heads, body, chance.randrange(6), chance.randrange(1, 10),
                    chance.randrange(1, 5), chance.random() < 0.3,
                ))
            wide = chance.choice([4, 5, 8, 16, 23, 40])
            room = chance.choice([0, chance.randrange(12), chance.randrange(61)])
            rows, stands, left = plainly(pieces, wide, room)
            self.told(rows, stands, left, pieces, wide, room)
