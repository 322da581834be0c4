"""Advertisements and where they stand (points 2, 11 and 12)."""

import random
import unittest

from nightpaper.ads import ad_block, stand_ads
from nightpaper.blocks import Block, framed
from nightpaper.setting import set_rows


def lines(many):
    """Words that are set to so many rows in any width."""
    return "\n".join("x" * many)


def ad(name, span, high):
    """An advertisement whose block has so many rows."""
    return (name, span, lines(high - 2))


def painted(form, ads, keep):
    """Places and missed ones, by signs put down on an empty page, rows counted from below."""
    columns, _wide, deep = form
    put = set()
    places, missed = [], []
    for one in ads:
        name, span, _words = one
        high = len(ad_block(form, one))
        tries = []
        for column in range(columns - span + 1):
            under = [row for where, row in put if column <= where < column + span]
            tries.append((max(under) + 1 if under else 0, -column))
        row, column = min(tries)
        if row + high + keep > deep:
            missed.append(name)
            continue
        column = -column
        put |= {(where, at) for where in range(column, column + span) for at in range(row, row + high)}
        places.append((name, column, deep - row - high, high))
    return places, missed


class AdBlocks(unittest.TestCase):
    def test_one_column(self):
        block = ad_block((1, 16, 20), ("ann", 1, "Hats for all heads"))
        self.assertIs(type(block), Block)
        self.assertEqual(block.wide, 16)
        self.assertEqual(block.lines(), [
            "+--------------+",
            "| Hats for all |",
            "| heads        |",
            "+--------------+",
        ])

    def test_two_columns(self):
        block = ad_block((3, 16, 20), ("ann", 2, "Hats for all heads, great and small, at Bob's"))
        self.assertEqual(block.lines(), [
            "+---------------------------------+",
            "| Hats for all heads, great and   |",
            "| small, at Bob's                 |",
            "+---------------------------------+",
        ])
        self.assertEqual(block.wide, 35)

    def test_each_span(self):
        words = "one two three four five six seven eight nine ten " * 5
        for columns in range(1, 7):
            for wide in (16, 17, 40):
                for span in range(1, columns + 1):
                    block = ad_block((columns, wide, 60), ("ann", span, words))
                    # So many columns stand side by side as in a page.
                    whole = len(" | ".join(["c" * wide] * span))
                    self.assertEqual(block.wide, whole)
                    rows = set_rows(words, whole - 4, False, 0)
                    self.assertEqual(block, framed(Block(rows, whole - 4)))

    def test_rows_are_not_spread(self):
        block = ad_block((1, 16, 20), ("ann", 1, "aa bb cccccccccc"))
        self.assertEqual(block.lines()[1], "| aa bb        |")

    def test_braces_are_signs_as_any(self):
        for words in ("{up a}", "}{", "{us}", "{"):
            block = ad_block((1, 16, 20), ("ann", 1, words))
            self.assertEqual(block.lines()[1], "| " + words.ljust(12) + " |")

    def test_line_feeds(self):
        block = ad_block((1, 16, 20), ("ann", 1, "\na b\n\n \nc\n"))
        self.assertEqual(block.lines()[1:-1], ["| a b          |", "| c            |"])

    def test_no_words(self):
        for words in ("", " ", "\n", "  \n \n"):
            block = ad_block((2, 16, 20), ("ann", 1, words))
            self.assertEqual(block.lines(), ["+--------------+"] * 2)

    def test_long_words(self):
        block = ad_block((1, 16, 20), ("ann", 1, "abcdefghijklm"))
        self.assertEqual(block.lines()[1:-1], ["| abcdefghijk- |", "| lm           |"])

    def test_two_thousand_signs(self):
        self.assertEqual(len(ad_block((6, 40, 60), ("ann", 1, "a\n" * 1000))), 1002)
        # 126 words of one sign have room in 251 signs.
        self.assertEqual(len(ad_block((6, 40, 60), ("ann", 6, "a " * 1000))), 2 + 8)


class Standing(unittest.TestCase):
    def told(self, places, missed, form, ads, *rest):
        told = stand_ads(form, ads, *rest)
        self.assertIs(type(told), tuple)
        self.assertEqual([type(part) for part in told], [list, list])
        self.assertTrue(all(type(place) is tuple for place in told[0]))
        self.assertEqual(told, (places, missed))

    def test_none(self):
        self.told([], [], (3, 16, 20), [])

    def test_of_like_places_the_one_most_to_the_right(self):
        self.told([("ann", 2, 17, 3)], [], (3, 16, 20), [ad("ann", 1, 3)])
        self.told([("ann", 1, 17, 3)], [], (3, 16, 20), [ad("ann", 2, 3)])
        self.told([("ann", 0, 17, 3)], [], (3, 16, 20), [ad("ann", 3, 3)])
        self.told([("ann", 0, 17, 3)], [], (1, 16, 20), [ad("ann", 1, 3)])

    def test_where_it_lies_lowest(self):
        form = (3, 16, 30)
        self.told(
            [("a", 2, 25, 5), ("b", 1, 27, 3), ("c", 0, 28, 2), ("d", 0, 25, 3), ("e", 1, 24, 3)], [],
            form, [ad("a", 1, 5), ad("b", 1, 3), ad("c", 1, 2), ad("d", 1, 3), ad("e", 1, 3)],
        )

    def test_it_lies_on_its_columns_highest_top(self):
        form = (3, 16, 30)
        self.told(
            [("a", 2, 25, 5), ("b", 0, 27, 3), ("c", 0, 24, 3), ("d", 2, 23, 2), ("e", 1, 21, 3), ("f", 0, 19, 2)],
            [], form, [ad("a", 1, 5), ad("b", 2, 3), ad("c", 2, 3), ad("d", 1, 2), ad("e", 1, 3), ad("f", 3, 2)],
        )

    def test_just_room_enough(self):
        for keep in range(7):
            for deep in (6, 20, 60):
                form = (2, 16, deep)
                high = deep - keep
                if high < 2:
                    self.told([], ["ann"], form, [ad("ann", 1, 2)], keep)
                    continue
                self.told([("ann", 1, keep, high)], [], form, [ad("ann", 1, high)], keep)
                self.told([], ["ann"], form, [ad("ann", 1, high + 1)], keep)

    def test_keep_left_out_is_four(self):
        form = (1, 16, 20)
        self.told([("ann", 0, 4, 16)], [], form, [ad("ann", 1, 16)])
        self.told([], ["ann"], form, [ad("ann", 1, 17)])

    def test_just_room_enough_on_another_one(self):
        form = (1, 16, 20)
        self.told([("a", 0, 15, 5), ("b", 0, 4, 11)], [], form, [ad("a", 1, 5), ad("b", 1, 11)])
        self.told([("a", 0, 15, 5)], ["b"], form, [ad("a", 1, 5), ad("b", 1, 12)])

    def test_missed_ones_lie_nowhere(self):
        form = (2, 16, 20)
        self.told(
            [("a", 1, 10, 10), ("c", 0, 17, 3), ("e", 0, 15, 2)], ["b", "d", "f"],
            form, [ad("a", 1, 10), ad("b", 2, 7), ad("c", 1, 3), ad("d", 1, 20), ad("e", 1, 2), ad("f", 2, 7)],
        )

    def test_a_place_where_it_has_no_room_is_not_changed_for_another_one(self):
        # It is missed where it lies lowest; there is no higher place with more room.
        self.told([("a", 0, 10, 10)], ["b", "c"], (1, 16, 20), [ad("a", 1, 10), ad("b", 1, 7), ad("c", 1, 7)])

    def test_like_names(self):
        form = (2, 16, 12)
        self.told(
            [("a", 1, 9, 3), ("a", 0, 9, 3), ("a", 1, 4, 5)], ["a", "a"],
            form, [ad("a", 1, 3), ad("a", 1, 3), ad("a", 2, 6), ad("a", 1, 5), ad("a", 2, 2)],
        )

    def test_the_same_one_twice(self):
        one = ad("a", 1, 3)
        self.told([("a", 1, 17, 3), ("a", 0, 17, 3), ("a", 1, 14, 3)], [], (2, 16, 20), [one, one, one])

    def test_no_words(self):
        self.told([("a", 0, 18, 2)], [], (1, 16, 20), [("a", 1, "")])

    def test_what_is_handed_in_stays_and_what_is_told_is_new(self):
        form = (2, 16, 20)
        ads = [ad("a", 1, 3), ad("b", 1, 18), ad("c", 2, 4)]
        before = list(ads)
        places, missed = stand_ads(form, ads)
        self.assertEqual(ads, before)
        self.assertEqual(missed, ["b"])
        places.append("x")
        places[0] = "y"
        missed.clear()
        self.told([("a", 1, 17, 3), ("c", 0, 13, 4)], ["b"], form, ads)
        ads.pop()
        self.told([("a", 1, 17, 3)], ["b"], form, ads)

    def test_a_span_of_more_columns_than_there_are_is_missed(self):
        self.told([("b", 1, 18, 2)], ["a"], (2, 16, 20), [("a", 3, ""), ("b", 1, "")])

    def test_held_against_a_painted_page(self):
        chance = random.Random(5)
        for _turn in range(600):
            form = (chance.randrange(1, 7), chance.choice([16, 25, 40]), chance.randrange(6, 61))
            ads = [
                ad(chance.choice("abc"), chance.randrange(1, form[0] + 1), chance.randrange(2, 14))
                for _ad in range(chance.randrange(9))
            ]
            keep = chance.randrange(7)
            self.told(*painted(form, ads, keep), form, ads, keep)
