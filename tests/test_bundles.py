"""Bundles (points 2 and 23)."""

import unittest

from nightpaper.bundles import Bundle, bundled
from tests.things import NO_TEXTS, ODD_TEXTS

VALUES = {"town": "york", "seller": "ann", "number": 2, "of": 3, "copies": 50}
OTHERWISE = {"town": "hull", "seller": "bob", "number": 1, "of": 2, "copies": 49}


def values_of(bundle):
    return tuple(getattr(bundle, name) for name in VALUES)


class Made(unittest.TestCase):
    def test_by_places_and_by_names(self):
        for bundle in (Bundle(*VALUES.values()), Bundle(**VALUES), Bundle(**dict(reversed(VALUES.items())))):
            self.assertEqual(values_of(bundle), ("york", "ann", 2, 3, 50))

    def test_a_number_above_how_many_there_are(self):
        bundle = Bundle("york", "ann", 7, 3, 1)
        self.assertEqual(values_of(bundle), ("york", "ann", 7, 3, 1))
        self.assertEqual(str(bundle), "york ann 7/3 1")

    def test_each_method_is_the_class_s_own(self):
        for name in ("__init__", "__eq__", "__len__", "__str__", "__repr__"):
            self.assertIn(name, vars(Bundle))


class Asked(unittest.TestCase):
    def test_alike(self):
        self.assertTrue(Bundle(**VALUES) == Bundle(**VALUES))
        self.assertFalse(Bundle(**VALUES) != Bundle(**VALUES))

    def test_one_value_otherwise(self):
        self.assertEqual(set(OTHERWISE), set(VALUES))
        for name, value in OTHERWISE.items():
            other = Bundle(**{**VALUES, name: value})
            self.assertFalse(Bundle(**VALUES) == other, name)
            self.assertTrue(other != Bundle(**VALUES), name)

    def test_values_in_one_another_s_place(self):
        self.assertNotEqual(Bundle("york", "ann", 1, 2, 3), Bundle("ann", "york", 1, 2, 3))
        self.assertNotEqual(Bundle("york", "ann", 1, 2, 3), Bundle("york", "ann", 2, 1, 3))
        self.assertNotEqual(Bundle("york", "ann", 1, 2, 3), Bundle("york", "ann", 1, 3, 2))

    def test_other_things(self):
        bundle = Bundle("york", "ann", 1, 1, 1)
        for thing in [*NO_TEXTS, *ODD_TEXTS, "york ann 1/1 1", ("york", "ann", 1, 1, 1), ["york", "ann", 1, 1, 1]]:
            self.assertIs(bundle == thing, False)
            self.assertIs(thing == bundle, False)
            self.assertIs(bundle != thing, True)

    def test_length_is_its_copies(self):
        for copies in (1, 2, 50, 1000, 10 ** 6):
            self.assertEqual(len(Bundle("york", "ann", 1, 1, copies)), copies)

    def test_text_and_how_it_is_shown(self):
        self.assertEqual(str(Bundle(**VALUES)), "york ann 2/3 50")
        self.assertEqual(repr(Bundle(**VALUES)), "Bundle(york ann 2/3 50)")
        self.assertEqual(repr([Bundle("a", "b", 1, 1, 10 ** 6)]), "[Bundle(a b 1/1 1000000)]")


class Bundled(unittest.TestCase):
    def told(self, wanted, wants, *size):
        told = bundled(wants, *size)
        self.assertIs(type(told), list)
        self.assertTrue(all(type(one) is Bundle for one in told))
        self.assertEqual([str(one) for one in told], wanted)

    def test_no_wants(self):
        self.told([], [])
        self.told([], [], 1)

    def test_no_copies(self):
        self.told([], [("york", "ann", 0)])
        self.told(["york bob 1/1 1"], [("york", "ann", 0), ("york", "bob", 1), ("hull", "ann", 0)], 10)

    def test_less_than_a_size_just_a_size_and_one_more(self):
        self.told(["york ann 1/1 9"], [("york", "ann", 9)], 10)
        self.told(["york ann 1/1 10"], [("york", "ann", 10)], 10)
        self.told(["york ann 1/2 10", "york ann 2/2 1"], [("york", "ann", 11)], 10)
        self.told(["york ann 1/2 10", "york ann 2/2 10"], [("york", "ann", 20)], 10)
        self.told(["york ann 1/3 10", "york ann 2/3 10", "york ann 3/3 9"], [("york", "ann", 29)], 10)

    def test_the_least_and_the_greatest_size(self):
        self.told(["york ann 1/3 1", "york ann 2/3 1", "york ann 3/3 1"], [("york", "ann", 3)], 1)
        self.told(["york ann 1/1 999"], [("york", "ann", 999)], 1000)
        self.told(["york ann 1/1 1000"], [("york", "ann", 1000)], 1000)
        self.told(["york ann 1/2 1000", "york ann 2/2 1"], [("york", "ann", 1001)], 1000)

    def test_size_left_out_is_fifty(self):
        self.told(["york ann 1/1 50"], [("york", "ann", 50)])
        self.told(["york ann 1/2 50", "york ann 2/2 1"], [("york", "ann", 51)])

    def test_in_the_wants_order(self):
        self.told(
            ["york bob 1/2 3", "york bob 2/2 1", "hull ann 1/1 2", "york ann 1/1 3"],
            [("york", "bob", 4), ("hull", "ann", 2), ("york", "ann", 3)], 3)

    def test_several_wants_of_one_seller(self):
        # Each want has its own bundles and its own numbers.
        self.told(
            ["york ann 1/2 5", "york ann 2/2 1", "york ann 1/1 2", "york ann 1/2 5", "york ann 2/2 1"],
            [("york", "ann", 6), ("york", "ann", 2), ("york", "ann", 6)], 5)

    def test_two_thousand_bundles(self):
        told = bundled([("york", "ann", 10 ** 6), ("hull", "bob", 10 ** 6 - 999)], 1000)
        self.assertEqual(len(told), 2000)
        self.assertEqual(sum(len(one) for one in told), 2 * 10 ** 6 - 999)
        self.assertEqual(str(told[999]), "york ann 1000/1000 1000")
        self.assertEqual(str(told[-1]), "hull bob 1000/1000 1")

    def test_all_copies_are_in_bundles(self):
        for size in (1, 2, 3, 7, 50):
            for copies in range(60):
                told = bundled([("york", "ann", copies)], size)
                self.assertEqual(sum(one.copies for one in told), copies)
                self.assertTrue(all(1 <= one.copies <= size for one in told))
                self.assertTrue(all(one.copies == size for one in told[:-1]))
                self.assertEqual([one.number for one in told], list(range(1, len(told) + 1)))
                self.assertEqual({one.of for one in told}, {len(told)} if told else set())

    def test_what_is_handed_in_stays_and_what_is_told_is_new(self):
        wants = [("york", "ann", 6), ("york", "bob", 2)]
        told = bundled(wants, 5)
        self.assertEqual(wants, [("york", "ann", 6), ("york", "bob", 2)])
        told[0].copies = 99
        told.clear()
        self.assertEqual([one.copies for one in bundled(wants, 5)], [5, 1, 2])
