"""Marked copy and its plain text (points 2 and 7)."""

import itertools
import random
import re
import unittest

from nightpaper.errors import NoCopy
from nightpaper.markup import plain
from tests.things import refusal

GROUP = re.compile(r"\{(up|low|quote) ([^{}]*)\}")
WORDS = ("up ", "low ", "quote ")


def group_plain(found):
    word, text = found.groups()
    if word == "quote":
        return f'"{text}"'
    return text.upper() if word == "up" else text.lower()


def reduced(copy):
    """The plain text, found by taking away all innermost groups, eight times; None where braces are left then."""
    for _round in range(8):
        copy = GROUP.sub(group_plain, copy)
    return None if "{" in copy or "}" in copy else copy


def begins(text):
    """Whether some marked copy begins so: tried with each end of a group's word, and with braces to close it."""
    ends = [""] + [word[at:] for word in WORDS for at in range(len(word))]
    return any(reduced(text + end + "}" * many) is not None for end in ends for many in range(9))


def longest_beginning(text):
    at = 0
    while at < len(text) and begins(text[:at + 1]):
        at += 1
    return at


def deep(times, inner="x", word="up"):
    return ("{" + word + " ") * times + inner + "}" * times


class Plain(unittest.TestCase):
    def told(self, copy, wanted):
        with self.subTest(copy[:60]):
            self.assertEqual(plain(copy), wanted)

    def test_without_groups(self):
        for copy in ("", " ", "a", "up a", "low", "Night and day", "a\nb\n\nc\n", "\n", '"', "~_/|[]()<>"):
            self.told(copy, copy)

    def test_each_word(self):
        self.told("{up abc XYZ 09 ~}", "ABC XYZ 09 ~")
        self.told("{low abc XYZ 09 ~}", "abc xyz 09 ~")
        self.told("{quote abc XYZ}", '"abc XYZ"')
        self.told("A {up b} C", "A B C")
        self.told("a{up b}c{low D}e{quote f}g", 'aBcde"f"g')

    def test_each_letter(self):
        small = "abcdefghijklmnopqrstuvwxyz"
        great = "ABCDEFGHIJKLMNOPQRSTUVWXYZ"
        rest = "".join(chr(at) for at in range(32, 127) if chr(at) not in small + great + "{}%")
        self.told("{up " + small + great + rest + "}", great + great + rest)
        self.told("{low " + small + great + rest + "}", small + small + rest)
        self.told("{quote " + small + great + rest + "}", '"' + small + great + rest + '"')

    def test_groups_of_nothing_and_of_blanks(self):
        self.told("{up }", "")
        self.told("{low }", "")
        self.told("{quote }", '""')
        self.told("{up  a}", " A")
        self.told("{quote   }", '"  "')
        self.told("{up up}", "UP")
        self.told("{up low a}", "LOW A")

    def test_line_feeds(self):
        self.told("{up a\nb}\n{low C\n}\n", "A\nB\nc\n\n")
        self.told("{quote \n}", '"\n"')

    def test_inner_groups_first(self):
        self.told("{up a{low B}c}", "ABC")
        self.told("{low A{up b}C}", "abc")
        self.told("{quote a{quote b}c}", '"a"b"c"')
        self.told("{up {quote a{low B}}}", '"AB"')
        self.told("{quote {up a} {low B}}", '"A b"')

    def test_within_one_another(self):
        for times in range(9):
            self.told(deep(times), "X" if times else "x")
            self.told(deep(times, word="quote"), '"' * times + "x" + '"' * times)
        self.told(deep(8) + deep(8) + "x" + deep(8), "XXxX")

    def test_many_behind_one_another(self):
        self.told("{up a}" * 300, "A" * 300)
        self.told("{quote {low A}}b" * 100, '"a"b' * 100)

    def test_two_thousand_signs(self):
        self.told("a" * 2000, "a" * 2000)
        self.told("{up " + "a" * 1995 + "}", "A" * 1995)
        self.told("{up }" * 400, "")
        self.told(deep(8, "a" * 1952), "A" * 1952)
        self.told("{low A\n}" * 250, "a\n" * 250)

    def test_a_text_is_told(self):
        for copy in ("", "a", "{up }", "{quote a}"):
            self.assertIs(type(plain(copy)), str)


class Refused(unittest.TestCase):
    def refused(self, copy, at):
        with self.subTest(copy[:60]):
            self.assertEqual(refusal(NoCopy, plain, copy).at, at)

    def test_the_document_s_examples(self):
        self.refused("}", 0)
        self.refused("{us}", 2)
        self.refused("{up}", 3)
        self.refused("{up", 3)

    def test_a_brace_too_many(self):
        self.refused("abc}", 3)
        self.refused("{up a}}", 6)
        self.refused("{up a}b}{", 7)
        self.refused("a\n}", 2)

    def test_words(self):
        self.refused("{}", 1)
        self.refused("{ up a}", 1)
        self.refused("{Up a}", 1)
        self.refused("{UP a}", 1)
        self.refused("{x", 1)
        self.refused("{{up a}}", 1)
        self.refused("{\nup a}", 1)
        self.refused("{ups a}", 3)
        self.refused("{up\na}", 3)
        self.refused("{up{up a}}", 3)
        self.refused("{lo a}", 3)
        self.refused("{low}", 4)
        self.refused("{lower a}", 4)
        self.refused("{lup a}", 2)
        self.refused("{quote}", 6)
        self.refused("{quot a}", 5)
        self.refused("{quotes a}", 6)
        self.refused("{quop a}", 4)

    def test_left_open(self):
        self.refused("{", 1)
        self.refused("{u", 2)
        self.refused("{up ", 4)
        self.refused("{up a", 5)
        self.refused("{up a{low b}", 12)
        self.refused("{up a\n", 6)
        self.refused("{quote " * 8, 56)
        self.refused("{low " + "a" * 1995, 2000)

    def test_the_ninth_group(self):
        self.refused(deep(9), 32)
        self.refused(deep(20), 32)
        self.refused("{up " * 8 + "{", 32)
        self.refused("{up " * 8 + "ab{x", 34)
        self.refused("{up " * 7 + deep(1) + "{low b}" + "c{up {up ", 28 + 6 + 7 + 1 + 4)
        self.refused("{quote " * 8 + "{quote a" + "}" * 9, 56)

    def test_cut_off_at_each_place(self):
        for copy in ("a{up b{low C}{quote d}}\ne{quote {up }}f", deep(8, "yz"), "{quote {low {up a}}}"):
            for cut in range(len(copy)):
                wanted = reduced(copy[:cut])
                if wanted is None:
                    self.refused(copy[:cut], cut)
                else:
                    self.assertEqual(plain(copy[:cut]), wanted)


class HeldAgainstReducing(unittest.TestCase):
    def held(self, copy):
        wanted = reduced(copy)
        if wanted is not None:
            self.assertEqual(plain(copy), wanted, copy)
        else:
            self.assertEqual(refusal(NoCopy, plain, copy).at, longest_beginning(copy), copy)

    def test_all_short_ones(self):
        for many in range(5):
            for signs in itertools.product(("{", "}", "up", " ", "low", "a"), repeat=many):
                self.held("".join(signs))

    def test_copy_with_one_fault(self):
        chance = random.Random(7)
        for _turn in range(150):
            copy = self.some_copy(chance, 3)
            self.held(copy)
            at = chance.randrange(len(copy) + 1)
            self.held(copy[:at] + chance.choice(["", "{", "}", " ", "x", "{up "]) + copy[at + chance.randrange(2):])

    def some_copy(self, chance, depth):
        parts = []
        for _part in range(chance.randrange(4)):
            if depth and chance.randrange(2):
                parts.append("{" + chance.choice(WORDS) + self.some_copy(chance, depth - 1) + "}")
            else:
                parts.append(chance.choice(["a", "B c", "\n", " ", "up "]))
        return "".join(parts)
