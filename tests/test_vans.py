"""Bundles loaded, and vans (points 2, 3 and 24)."""

import copy
import itertools
import random
import unittest

from nightpaper.bundles import Bundle, bundled
from nightpaper.errors import TooMany, Unknown
from nightpaper.vans import loaded, vans
from tests.things import refusal


def bundles_of(*wanted):
    """A bundle for each (town, copies), its number its place in the list."""
    return [Bundle(town, "ann", at + 1, len(wanted), copies) for at, (town, copies) in enumerate(wanted)]


def numbers(bundles):
    return [bundle.number for bundle in bundles]


def unloaded(van):
    """What comes out of a van where what was put in last comes out first."""
    van = list(van)
    told = []
    while van:
        told.append(van.pop())
    return told


def plainly_filled(route, bundles, most):
    """The vans of bundles, found town by town and bundle by bundle, each van as it is emptied."""
    filled = []
    for town in route:
        for bundle in bundles:
            if bundle.town == town:
                if not filled or sum(map(len, filled[-1])) + len(bundle) > most:
                    filled.append([])
                filled[-1].append(bundle)
    return filled


class Loaded(unittest.TestCase):
    def test_none(self):
        self.assertEqual(loaded((), []), [])
        self.assertEqual(loaded(("york", "hull"), []), [])

    def test_one(self):
        bundles = bundles_of(("york", 5))
        self.assertEqual(loaded(("york",), bundles), bundles)
        self.assertEqual(loaded(("hull", "york", "leeds"), bundles), bundles)

    def test_many_of_one_town_are_turned(self):
        bundles = bundles_of(*[("york", 5)] * 4)
        self.assertEqual(numbers(loaded(("york",), bundles)), [4, 3, 2, 1])
        self.assertEqual(numbers(loaded(("hull", "york"), bundles)), [4, 3, 2, 1])

    def test_several_towns(self):
        bundles = bundles_of(("york", 1), ("hull", 1), ("york", 1), ("leeds", 1), ("hull", 1))
        self.assertEqual(numbers(loaded(("york", "hull", "leeds"), bundles)), [4, 5, 2, 3, 1])
        self.assertEqual(numbers(loaded(("leeds", "hull", "york"), bundles)), [3, 1, 5, 2, 4])
        self.assertEqual(numbers(loaded(("hull", "leeds", "york"), bundles)), [3, 1, 4, 5, 2])

    def test_towns_without_bundles(self):
        bundles = bundles_of(("york", 1), ("hull", 1), ("york", 1))
        self.assertEqual(numbers(loaded(("a", "york", "b", "hull", "c"), bundles)), [2, 3, 1])

    def test_what_is_put_in_first_comes_out_last(self):
        bundles = bundles_of(*[(town, 1) for town in ("b", "a", "c", "a", "b", "c", "a")])
        for route in itertools.permutations("abc"):
            wanted = [bundle for town in route for bundle in bundles if bundle.town == town]
            self.assertEqual(unloaded(loaded(route, bundles)), wanted)

    def test_like_bundles_each_stand_for_themselves(self):
        bundles = [Bundle("york", "ann", 1, 1, 5)] * 3
        self.assertEqual(loaded(("york",), bundles), bundles)

    def test_unknown_of_the_first_bundle(self):
        bundles = bundles_of(("york", 1), ("leeds", 1), ("hull", 1), ("leeds", 1))
        self.assertEqual(refusal(Unknown, loaded, ("york",), bundles).name, "leeds")
        self.assertEqual(refusal(Unknown, loaded, ("york", "leeds"), bundles).name, "hull")
        self.assertEqual(refusal(Unknown, loaded, (), bundles).name, "york")
        self.assertEqual(str(refusal(Unknown, loaded, ("york",), bundles)), "no leeds")

    def test_a_new_list_and_nothing_changed(self):
        bundles = bundles_of(("york", 1), ("hull", 2))
        before = copy.deepcopy(bundles)
        told = loaded(("hull", "york"), bundles)
        self.assertIs(type(told), list)
        told.clear()
        self.assertEqual(bundles, before)
        self.assertEqual(numbers(loaded(("hull", "york"), bundles)), [1, 2])


class Vans(unittest.TestCase):
    def test_no_bundles_no_van(self):
        self.assertEqual(vans((), []), [])
        self.assertEqual(vans(("york",), [], 5), [])

    def test_a_most_that_is_just_the_copies(self):
        bundles = bundles_of(("york", 5), ("york", 3))
        self.assertEqual([numbers(van) for van in vans(("york",), bundles, 8)], [[2, 1]])
        self.assertEqual([numbers(van) for van in vans(("york",), bundles, 7)], [[1], [2]])
        self.assertEqual([numbers(van) for van in vans(("york",), bundles, 5)], [[1], [2]])

    def test_one_less_is_too_many(self):
        bundles = bundles_of(("york", 5), ("york", 3))
        met = refusal(TooMany, vans, ("york",), bundles, 4)
        self.assertEqual((met.asked, met.most, str(met)), (5, 4, "5 above 4"))
        met = refusal(TooMany, vans, ("york",), bundles_of(("york", 1)), 0)
        self.assertEqual((met.asked, met.most), (1, 0))

    def test_the_one_that_is_left_out_is_a_thousand(self):
        self.assertEqual(len(vans(("york",), bundles_of(("york", 400), ("york", 600)))), 1)
        self.assertEqual(len(vans(("york",), bundles_of(("york", 400), ("york", 601)))), 2)
        met = refusal(TooMany, vans, ("york",), bundles_of(("york", 1001)))
        self.assertEqual((met.asked, met.most), (1001, 1000))

    def test_too_many_of_the_first_as_they_come_out(self):
        bundles = bundles_of(("york", 9), ("hull", 7), ("york", 2), ("hull", 8))
        self.assertEqual(refusal(TooMany, vans, ("york", "hull"), bundles, 6).asked, 9)
        self.assertEqual(refusal(TooMany, vans, ("hull", "york"), bundles, 6).asked, 7)
        self.assertEqual(refusal(TooMany, vans, ("hull", "york"), bundles, 7).asked, 8)

    def test_too_many_behind_unknown(self):
        bundles = bundles_of(("york", 99), ("hull", 7), ("leeds", 7))
        self.assertEqual(refusal(Unknown, vans, ("york", "leeds"), bundles, 6).name, "hull")
        self.assertEqual(refusal(Unknown, vans, ("york",), bundles, 6).name, "hull")

    def test_a_later_bundle_does_not_go_back_to_an_earlier_van(self):
        bundles = bundles_of(("york", 6), ("york", 6), ("york", 1), ("york", 4))
        self.assertEqual([numbers(van) for van in vans(("york",), bundles, 10)], [[1], [3, 2], [4]])

    def test_several_towns_in_vans_as_loaded(self):
        bundles = bundles_of(("york", 4), ("hull", 4), ("york", 4), ("leeds", 4), ("hull", 4))
        told = vans(("hull", "york", "leeds"), bundles, 12)
        self.assertEqual([numbers(van) for van in told], [[1, 5, 2], [4, 3]])

    def test_against_plainly_filled_vans(self):
        chance = random.Random(24)
        for _turn in range(200):
            towns = "abcde"[:chance.randint(1, 5)]
            route = tuple(chance.sample("abcde", 5))
            bundles = bundles_of(*[(chance.choice(towns), chance.randint(1, 9)) for _ in range(chance.randint(0, 12))])
            most = chance.randint(9, 30)
            told = vans(route, bundles, most)
            self.assertEqual([unloaded(van) for van in told], plainly_filled(route, bundles, most))
            out = [bundle for van in told for bundle in unloaded(van)]
            self.assertEqual(out, unloaded(loaded(route, bundles)))
            for van, following in zip(told, told[1:]):
                self.assertLessEqual(sum(map(len, van)), most)
                self.assertGreater(sum(map(len, van)) + len(following[-1]), most)

    def test_of_bundled_wants(self):
        bundles = bundled([("york", "ann", 120), ("hull", "bob", 30)], 50)
        told = vans(("hull", "york"), bundles, 100)
        self.assertEqual([[str(bundle) for bundle in van] for van in told], [
            ["york ann 1/3 50", "hull bob 1/1 30"], ["york ann 3/3 20", "york ann 2/3 50"],
        ])

    def test_two_thousand_bundles(self):
        bundles = bundled([("york", "ann", 10 ** 6), ("hull", "bob", 10 ** 6)], 1000)
        told = vans(("hull", "york"), bundles, 10 ** 6)
        self.assertEqual([len(van) for van in told], [1000, 1000])
        self.assertEqual([van[-1].town for van in told], ["hull", "york"])

    def test_new_lists_and_nothing_changed(self):
        bundles = bundles_of(("york", 1), ("hull", 2))
        before = copy.deepcopy(bundles)
        told = vans(("hull", "york"), bundles, 2)
        self.assertEqual([type(told)] + [type(van) for van in told], [list] * 3)
        told[0].clear()
        told.clear()
        self.assertEqual(bundles, before)
        self.assertEqual([numbers(van) for van in vans(("hull", "york"), bundles, 2)], [[2], [1]])
