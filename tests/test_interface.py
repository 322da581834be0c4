"""The interface: names, arguments, what may be left out, and the asker's own lists (point 2)."""

import copy
import importlib
import inspect
import unittest

from nightpaper.blocks import Block
from nightpaper.bundles import Bundle
from nightpaper.desk import Desk
from nightpaper.ledgers import Ledger
from nightpaper.nights import Night
from nightpaper.nighttexts import night_by, night_text
from nightpaper.pages import Page
from nightpaper.pieces import Piece

FUNCTIONS = {
    "words.is_name": "(thing)",
    "words.is_hour": "(thing)",
    "words.money_text": "(pence)",
    "words.money_by": "(text)",
    "marks.mark_of": "(rows)",
    "marks.mark_text": "(mark)",
    "marks.mark_by": "(text)",
    "markup.plain": "(copy)",
    "setting.set_rows": "(text, wide, full=True, gap=0)",
    "heads.head_rows": "(text, wide, most=2, spaced=False)",
    "heads.first_head": "(texts, wide, most=2, spaced=False)",
    "blocks.Block": "(rows, wide)",
    "blocks.beside": "(left, right, rule=' | ')",
    "blocks.above": "(upper, lower)",
    "blocks.framed": "(block)",
    "ads.ad_block": "(form, ad)",
    "ads.stand_ads": "(form, ads, keep=4)",
    "pieces.Piece": "(name, heads, body, least=2, rank=5, most=2, spaced=False)",
    "columns.needed": "(piece, wide)",
    "columns.column_of": "(pieces, wide, room)",
    "pages.page_of": "(form, title, number, ads, columns, keep=4)",
    "latenews.spare": "(form, ads, columns, stay=5, keep=4)",
    "latenews.late_in": "(form, title, number, ads, columns, piece, stay=5, keep=4)",
    "sheets.sheet_pages": "(pages, sheet)",
    "sheets.kinds_of": "(edition)",
    "sheets.lacks": "(editions, good, wants)",
    "sheets.gathered": "(editions, good, wants)",
    "sheets.rests": "(editions, good, wants)",
    "presses.planned": "(presses, needs)",
    "planlooks.plan_late": "(presses, needs, thing)",
    "planlooks.bound": "(presses, needs, names)",
    "planlooks.slots_of": "(presses, needs, names)",
    "bundles.Bundle": "(town, seller, number, of, copies)",
    "bundles.bundled": "(wants, size=50)",
    "vans.loaded": "(route, bundles)",
    "vans.vans": "(route, bundles, most=1000)",
    "ledgers.Ledger": "(price=2, free=13, within=3)",
    "nights.Night": "(title, form, pages=4, keep=4, stay=5)",
    "nighttexts.packed": "(text)",
    "nighttexts.unpacked": "(text)",
    "nighttexts.night_text": "(night)",
    "nighttexts.night_by": "(text)",
    "nighttexts.made_again": "(text, number, version)",
    "desk.Desk": "(night)",
}

# The methods of the classes, each the class's own.
METHODS = {
    "blocks.Block": {"lines": "(self)"},
    "pages.Page": {
        "lines": "(self)", "places": "(self)", "missed": "(self)", "stands": "(self)", "gone": "(self)",
        "mark": "(self)",
    },
    "ledgers.Ledger": {
        "send": "(self, seller, night, copies)", "back": "(self, seller, night, told, copies)",
        "pay": "(self, seller, pence)", "price_from": "(self, night, price)", "sellers": "(self)",
        "account": "(self, seller)", "owes": "(self, seller)", "statement": "(self, seller)",
    },
    "nights.Night": {
        "enter": "(self, hour, deed)", "out": "(self, entry)", "entries": "(self)", "page": "(self, hour, number)",
        "plate": "(self, hour, number, version)", "versions": "(self, hour)", "editions": "(self, hour)",
        "good": "(self, hour)", "lacking": "(self, hour)", "dealt": "(self, hour)", "white": "(self, hour)",
        "bundles": "(self, hour, edition, size=50)", "bill": "(self, hour, ad, rate=3)",
    },
    "desk.Desk": {"say": "(self, row)"},
}
ASKED_BY = {
    "blocks.Block": "__eq__ __len__ __str__ __repr__",
    "pieces.Piece": "__eq__ __len__ __str__",
    "pages.Page": "__eq__ __len__ __str__ __repr__",
    "bundles.Bundle": "__eq__ __len__ __str__ __repr__",
    "ledgers.Ledger": "__eq__ __len__ __str__",
}

FORM = (2, 16, 20)
ADS = [("ann", 2, "a"), ("bob", 1, "b\n" * 20)]
SNOW = Piece("snow", ("Snow falls",), "a\nb\nc")
RAIN = Piece("rain", ("Rain",), "d\n" * 30, 12, 7)
GATHERED = {
    "editions": {"one": (1, 1, 1, 1), "two": (2, 1, 1, 1)},
    "good": {(0, (1, 1, 1, 1)): 5, (0, (1, 2, 1, 1)): 2},
    "wants": [("one", 3), ("two", 4)],
}
SHOP = {"presses": [("hoe", (3, 0, 4))], "needs": [("ann", 0, 2, 5, ("cox",)), ("bob", 0, 3, 6, ())]}
NIGHT = "night times 2 16 12 8 3 6\n0 piece a 1 5 b c\n1 fill 1 0 a\n2 lock 1\n3 fill 1 0\n3 lock 1"
BUNDLES = [Bundle("hull", "bob", 1, 1, 4), Bundle("york", "ann", 1, 2, 5), Bundle("york", "ann", 2, 2, 2)]

# What each is asked with, by the names of its arguments, in their order.
ASKED = {
    "words.is_name": {"thing": "ann"},
    "words.is_hour": {"thing": 7},
    "words.money_text": {"pence": 295},
    "words.money_by": {"text": "1-04-07"},
    "marks.mark_of": {"rows": ["ann", "bob"]},
    "marks.mark_text": {"mark": 7},
    "marks.mark_by": {"text": "00ff"},
    "markup.plain": {"copy": "a {up b}"},
    "setting.set_rows": {"text": "a b c\nd", "wide": 4, "full": False, "gap": 2},
    "heads.head_rows": {"text": "aa bb cc", "wide": 8, "most": 3, "spaced": True},
    "heads.first_head": {"texts": ("aaaaa", "aa bb cc"), "wide": 8, "most": 3, "spaced": True},
    "blocks.Block": {"rows": ["a", "b"], "wide": 3},
    "blocks.beside": {"left": Block(["a"], 1), "right": Block(["b"], 2), "rule": "#"},
    "blocks.above": {"upper": Block(["a"], 2), "lower": Block(["b"], 2)},
    "blocks.framed": {"block": Block(["a"], 2)},
    "ads.ad_block": {"form": (2, 16, 20), "ad": ("ann", 2, "a\nb")},
    "ads.stand_ads": {"form": (2, 16, 20), "ads": [("ann", 2, "a"), ("bob", 1, "b\n" * 20)], "keep": 3},
    "pieces.Piece": {
        "name": "snow", "heads": ("Snow falls", "Snow"), "body": "a {up b}", "least": 3, "rank": 1, "most": 1,
        "spaced": True,
    },
    "columns.needed": {"piece": RAIN, "wide": 16},
    "columns.column_of": {"pieces": [SNOW, RAIN], "wide": 16, "room": 10},
    "pages.page_of": {
        "form": FORM, "title": "sun", "number": 7, "ads": ADS, "columns": [[RAIN], [SNOW, RAIN, RAIN]], "keep": 3,
    },
    "latenews.spare": {"form": FORM, "ads": ADS, "columns": [[RAIN], [SNOW]], "stay": 7, "keep": 3},
    "latenews.late_in": {
        "form": FORM, "title": "sun", "number": 7, "ads": ADS, "columns": [[RAIN], []], "piece": SNOW, "stay": 0,
        "keep": 3,
    },
    "sheets.sheet_pages": {"pages": 8, "sheet": 1},
    "sheets.kinds_of": {"edition": (1, 2, 3, 4)},
    "sheets.lacks": GATHERED,
    "sheets.gathered": GATHERED,
    "sheets.rests": GATHERED,
    "presses.planned": SHOP,
    "planlooks.plan_late": {**SHOP, "thing": [("hoe", 0, "ann", 2)]},
    "planlooks.bound": {**SHOP, "names": ("ann",)},
    "planlooks.slots_of": {**SHOP, "names": ("bob", "ann")},
    "bundles.Bundle": {"town": "york", "seller": "ann", "number": 1, "of": 2, "copies": 3},
    "bundles.bundled": {"wants": [("york", "ann", 7), ("hull", "bob", 0)], "size": 3},
    "vans.loaded": {"route": ("york", "hull"), "bundles": BUNDLES},
    "vans.vans": {"route": ("york", "hull"), "bundles": BUNDLES, "most": 7},
    "ledgers.Ledger": {"price": 3, "free": 5, "within": 0},
    "nights.Night": {"title": "times", "form": (2, 16, 12), "pages": 8, "keep": 3, "stay": 6},
    "nighttexts.packed": {"text": "a b\n~"},
    "nighttexts.unpacked": {"text": "a_b/~t"},
    "nighttexts.night_text": {"night": night_by(NIGHT)},
    "nighttexts.night_by": {"text": NIGHT},
    "nighttexts.made_again": {"text": NIGHT, "number": 1, "version": 2},
    "desk.Desk": {"night": night_by(NIGHT)},
}


def named(path):
    module, name = path.split(".")
    return getattr(importlib.import_module("nightpaper." + module), name)


def lists_in(thing):
    """All lists in what was told."""
    if isinstance(thing, (list, tuple)):
        within = [one for part in thing for one in lists_in(part)]
        return within + [thing] if isinstance(thing, list) else within
    return []


def kinds_in(thing):
    """The kinds of all that is in what was told."""
    if isinstance(thing, (list, tuple)):
        return {type(thing)}.union(*[kinds_in(part) for part in thing])
    return {type(thing)}


def shown(thing):
    """What can be compared: a night's text in its place, and in the place of a desk."""
    if isinstance(thing, dict):
        return {name: shown(part) for name, part in thing.items()}
    if isinstance(thing, Desk):
        return thing.say("night")
    return night_text(thing) if isinstance(thing, Night) else thing


class Interface(unittest.TestCase):
    def test_arguments(self):
        for path, wanted in FUNCTIONS.items():
            with self.subTest(path):
                self.assertEqual(str(inspect.signature(named(path))), wanted)

    def test_methods(self):
        for path, methods in METHODS.items():
            for name, wanted in methods.items():
                with self.subTest(f"{path} {name}"):
                    self.assertEqual(str(inspect.signature(vars(named(path))[name])), wanted)
        for path, names in ASKED_BY.items():
            self.assertLessEqual(set(names.split()), set(vars(named(path))), path)

    def test_by_places_or_by_names_in_any_order(self):
        self.assertEqual(set(ASKED), set(FUNCTIONS))
        for path, asked in ASKED.items():
            call = named(path)
            told = shown(call(*asked.values()))
            with self.subTest(path):
                self.assertEqual(shown(call(**asked)), told)
                self.assertEqual(shown(call(**dict(reversed(asked.items())))), told)
                for places in range(len(asked)):
                    ahead = list(asked.values())[:places]
                    behind = dict(reversed(list(asked.items())[places:]))
                    self.assertEqual(shown(call(*ahead, **behind)), told)

    def test_nothing_is_changed_and_told_lists_are_new(self):
        for path, asked in ASKED.items():
            call = named(path)
            before = shown(copy.deepcopy(asked))
            told = call(**asked)
            kept = shown(copy.deepcopy(told))
            self.assertEqual(shown(asked), before, path)
            for one in lists_in(told):
                one.append("more")
                one.reverse()
            self.assertEqual(shown(call(**asked)), kept, path)
            self.assertEqual(shown(asked), before, path)

    def test_told_tuples_and_lists_are_plain(self):
        told_kinds = {list, tuple, str, int, bool, type(None), Block, Piece, Page, Bundle, Ledger, Night, Desk}
        for path, asked in ASKED.items():
            told = named(path)(**asked)
            self.assertLessEqual(kinds_in(told), told_kinds, path)
