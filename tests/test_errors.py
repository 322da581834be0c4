"""The refusals: what they stand under, how they are made, their fields and texts (the interface, point 2)."""

import copy
import unittest

from nightpaper import errors
from tests.things import own_errors

STRAIGHT = {
    "NoText": ("row",),
    "NoCopy": ("at",),
    "NoFit": ("rows",),
    "NoRoom": ("lack",),
    "Unlike": ("one", "other"),
    "Taken": ("name",),
    "Twice": ("name",),
    "NotLocked": ("number",),
    "Hindered": ("entry", "refusal"),
    "NoDeed": ("text",),
    "NoHour": ("text",),
    "NoRow": ("text",),
}

BESIDE = {
    "Unknown": (KeyError, ("name",)),
    "NoPlace": (IndexError, ("number", "many")),
    "TooMany": (OverflowError, ("asked", "most")),
    "TooLate": (RuntimeError, ("by",)),
    "NoCopies": (ZeroDivisionError, ()),
}

WORTHS = [(7, 9), (0, 0), (-3, 4), ("ann", "bob"), (None, None), (10 ** 5000, -10 ** 5000), ([1], {"a": (2,)})]


def fields_of(name):
    if name in STRAIGHT:
        return STRAIGHT[name]
    return BESIDE[name][1]


class Standing(unittest.TestCase):
    def test_these_are_all(self):
        self.assertEqual(set(own_errors()), {"NightError", *STRAIGHT, *BESIDE})

    def test_night_error_under_value_error(self):
        self.assertEqual(errors.NightError.__bases__, (ValueError,))

    def test_straight_under_night_error(self):
        for name in STRAIGHT:
            with self.subTest(name):
                self.assertEqual(own_errors()[name].__bases__, (errors.NightError,))

    def test_beside_under_python_s_own(self):
        for name, (base, _fields) in BESIDE.items():
            with self.subTest(name):
                self.assertEqual(own_errors()[name].__bases__, (base,))

    def test_none_under_another_one(self):
        classes = own_errors()
        for one in classes:
            for other in classes:
                wanted = one == other or (other == "NightError" and one in STRAIGHT)
                with self.subTest(one=one, other=other):
                    self.assertEqual(issubclass(classes[one], classes[other]), wanted)

    def test_those_beside_are_no_value_errors(self):
        for name in BESIDE:
            with self.subTest(name):
                self.assertFalse(issubclass(own_errors()[name], ValueError))


class Fields(unittest.TestCase):
    def test_made_by_places(self):
        for name in {**STRAIGHT, **BESIDE}:
            fields = fields_of(name)
            for worths in WORTHS:
                made = own_errors()[name](*worths[:len(fields)])
                for field, worth in zip(fields, worths):
                    with self.subTest(name=name, field=field):
                        self.assertEqual(getattr(made, field), worth)

    def test_raised_and_caught(self):
        for name in {**STRAIGHT, **BESIDE}:
            made = own_errors()[name](*[5, 6][:len(fields_of(name))])
            with self.subTest(name), self.assertRaises(own_errors()[name]) as caught:
                raise made
            self.assertIs(caught.exception, made)

    def test_copied_with_its_fields(self):
        for name in {**STRAIGHT, **BESIDE}:
            fields = fields_of(name)
            again = copy.copy(own_errors()[name](*[5, 6][:len(fields)]))
            with self.subTest(name):
                self.assertEqual([getattr(again, field) for field in fields], [5, 6][:len(fields)])

    def test_hindered_has_the_very_refusal(self):
        met = errors.Unknown("ann")
        made = errors.Hindered(3, met)
        self.assertEqual(made.entry, 3)
        self.assertIs(made.refusal, met)


class Texts(unittest.TestCase):
    def test_unknown(self):
        self.assertEqual(str(errors.Unknown("ann")), "no ann")
        self.assertEqual(str(errors.Unknown("x")), "no x")

    def test_no_place(self):
        self.assertEqual(str(errors.NoPlace(5, 4)), "5 of 4")
        self.assertEqual(str(errors.NoPlace(-1, 0)), "-1 of 0")
        self.assertEqual(str(errors.NoPlace("ann", 2)), "ann of 2")
        self.assertEqual(str(errors.NoPlace(None, 2)), "None of 2")

    def test_too_many(self):
        self.assertEqual(str(errors.TooMany(12, 7)), "12 above 7")
        self.assertEqual(str(errors.TooMany(1, 0)), "1 above 0")

    def test_those_made_with_a_text_tell_it(self):
        for kind in (errors.NoDeed, errors.NoHour, errors.NoRow):
            self.assertEqual(str(kind("not so")), "not so")

    def test_all_others_have_a_text(self):
        for name in {**STRAIGHT, **BESIDE}:
            text = str(own_errors()[name](*["ann", 6][:len(fields_of(name))]))
            with self.subTest(name):
                self.assertIs(type(text), str)
                self.assertNotEqual(text, "")
        self.assertNotEqual(str(errors.NoFit(None)), str(errors.NoFit(3)))
