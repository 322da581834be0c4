"""Plans looked at, bounds and slots (points 2, 20, 21 and 22)."""

import copy
import unittest

from nightpaper.errors import Unknown
from nightpaper.planlooks import bound, plan_late, slots_of
from tests.things import NO_TEXTS, ODD_TEXTS, nested, refusal

PRESSES = [("hoe", (5, 0, 7)), ("cox", (3, 4, 2, 9))]
NEEDS = [
    ("a", 0, 2, 6, ()),
    ("b", 1, 4, 10, ("hoe",)),
    ("c", 2, 3, 4, ("cox", "none")),
    ("d", 0, 12, 2, ("hoe", "cox")),
]
ALL = 22
PLAN = [("cox", 0, "a", 1), ("cox", 1, "b", 4), ("cox", 3, "b", 6), ("hoe", 0, "a", 5), ("hoe", 2, "c", 4)]


def late(thing):
    return plan_late(PRESSES, NEEDS, thing)


class Plans(unittest.TestCase):
    def test_right_ones(self):
        self.assertEqual(late([]), ALL)
        self.assertEqual(late(PLAN), ALL - 20)
        for number in range(len(PLAN)):
            self.assertEqual(late(PLAN[:number] + PLAN[number + 1:]), ALL - 20 + PLAN[number][3])
        self.assertEqual(late([("hoe", 0, "a", 1)]), ALL - 1)
        # Several needs in one slot.
        self.assertEqual(late([("cox", 1, "a", 1), ("cox", 1, "b", 3)]), ALL - 4)

    def test_a_whole_number(self):
        self.assertIs(type(late(PLAN)), int)
        self.assertEqual(plan_late([], [], []), 0)
        self.assertEqual(plan_late([], NEEDS, []), ALL)
        self.assertEqual(plan_late(PRESSES, [], []), 0)

    def test_none_late(self):
        self.assertEqual(plan_late([("hoe", (5,))], [("a", 0, 1, 5, ())], [("hoe", 0, "a", 5)]), 0)

    def test_not_sorted(self):
        self.assertIsNone(late(PLAN[::-1]))
        for number in range(len(PLAN) - 1):
            turned = list(PLAN)
            turned[number], turned[number + 1] = turned[number + 1], turned[number]
            self.assertIsNone(late(turned))
        self.assertIsNone(late([("cox", 1, "b", 1), ("cox", 1, "a", 3)]))

    def test_a_slot_twice_for_a_need(self):
        self.assertIsNone(late([("hoe", 0, "a", 1), ("hoe", 0, "a", 1)]))
        self.assertIsNone(late([("hoe", 0, "a", 1), ("hoe", 0, "a", 2)]))

    def test_many_of_nought_or_below(self):
        for many in (0, -1, -10 ** 9):
            self.assertIsNone(late([("hoe", 0, "a", many)]))
            self.assertIsNone(late(PLAN[:-1] + [("hoe", 2, "c", many)]))

    def test_a_truth_in_the_place_of_a_number(self):
        self.assertEqual(late([("cox", 1, "a", 1)]), ALL - 1)
        self.assertIsNone(late([("cox", 1, "a", True)]))
        self.assertIsNone(late([("cox", True, "a", 1)]))
        self.assertIsNone(late([("cox", False, "a", 1)]))
        self.assertIsNone(late([("cox", 1, "a", False)]))

    def test_a_slot_that_is_not_open(self):
        for entry in (
            ("hoe", 1, "a", 1), ("cox", 2, "a", 1), ("cox", 3, "a", 1), ("cox", 0, "b", 1), ("hoe", 2, "b", 1),
            ("cox", 2, "c", 1), ("cox", 0, "d", 1), ("hoe", 0, "d", 1), ("none", 0, "a", 1), ("a", 0, "a", 1),
            ("hoe", -1, "a", 1), ("cox", -1, "a", 1), ("cox", 4, "b", 1), ("hoe", 10 ** 30, "a", 1),
        ):
            self.assertIsNone(late([entry]), entry)

    def test_a_need_that_is_not_there(self):
        self.assertIsNone(late([("hoe", 0, "e", 1)]))
        self.assertIsNone(late([("hoe", 0, "", 1)]))
        self.assertIsNone(plan_late(PRESSES, [], [("hoe", 0, "a", 1)]))

    def test_more_than_the_rate(self):
        needs = [("a", 0, 12, 100, ()), ("b", 0, 12, 100, ())]
        self.assertEqual(plan_late(PRESSES, needs, [("hoe", 0, "a", 5)]), 195)
        self.assertIsNone(plan_late(PRESSES, needs, [("hoe", 0, "a", 6)]))
        self.assertEqual(plan_late(PRESSES, needs, [("hoe", 0, "a", 3), ("hoe", 0, "b", 2)]), 195)
        self.assertIsNone(plan_late(PRESSES, needs, [("hoe", 0, "a", 3), ("hoe", 0, "b", 3)]))
        # A rate of 0, and hours beyond the press's rates.
        self.assertIsNone(plan_late(PRESSES, needs, [("hoe", 1, "a", 1)]))
        self.assertIsNone(plan_late(PRESSES, needs, [("hoe", 3, "a", 1)]))
        self.assertIsNone(plan_late(PRESSES, needs, [("hoe", 11, "a", 1)]))

    def test_more_than_the_need(self):
        self.assertEqual(late([("cox", 0, "a", 1), ("hoe", 0, "a", 5)]), ALL - 6)
        self.assertIsNone(late([("cox", 0, "a", 2), ("hoe", 0, "a", 5)]))
        self.assertEqual(late([("hoe", 2, "c", 4)]), ALL - 4)
        self.assertIsNone(late([("hoe", 2, "c", 5)]))

    def test_lists_and_tuples_in_one_another_s_place(self):
        self.assertIsNone(late(tuple(PLAN)))
        self.assertIsNone(late(()))
        self.assertIsNone(late([list(entry) for entry in PLAN]))
        self.assertIsNone(late(PLAN[:-1] + [list(PLAN[-1])]))
        self.assertIsNone(late([PLAN]))
        self.assertIsNone(late(PLAN[0]))

    def test_more_or_fewer_parts(self):
        self.assertIsNone(late([("hoe", 0, "a")]))
        self.assertIsNone(late([("hoe", 0, "a", 1, 1)]))
        self.assertIsNone(late([()]))
        self.assertIsNone(late(PLAN[:-1] + [PLAN[-1][:3]]))

    def test_other_things_in_the_place_of_a_part(self):
        for place in range(4):
            for thing in [*NO_TEXTS, *ODD_TEXTS, ("hoe",), ["a"], {"a": 1}, "1"]:
                entry = list(("cox", 1, "a", 1))
                entry[place] = thing
                if type(thing) is int and thing in {1: (0, 1), 3: (1,)}.get(place, ()):
                    continue
                self.assertIsNone(late([tuple(entry)]), (place, thing))
                # Beside right ones, too, so that one must be asked whether it is sorted among them.
                self.assertIsNone(late([("cox", 0, "a", 1), tuple(entry), ("hoe", 0, "a", 1)]), (place, thing))

    def test_anything(self):
        for thing in [*NO_TEXTS, *ODD_TEXTS, "hoe", {}, {("hoe", 0, "a", 1): 1}, {0: ("hoe", 0, "a", 1)}, nested(30)]:
            if thing != []:
                self.assertIsNone(late(thing))
                self.assertIsNone(late([thing]))
                self.assertIsNone(late(PLAN + [thing]))
                self.assertIsNone(late([thing] + PLAN))
        self.assertIsNone(late([[]]))
        self.assertIsNone(late(None))

    def test_nothing_handed_in_is_changed(self):
        asked = (PRESSES, NEEDS, PLAN)
        before = copy.deepcopy(asked)
        for thing in (PLAN, PLAN[::-1], []):
            kept = list(thing)
            plan_late(PRESSES, NEEDS, thing)
            self.assertEqual(thing, kept)
        self.assertEqual(asked, before)

    def test_great_counts(self):
        presses = [("hoe", (10 ** 6,) * 12)]
        needs = [("a", 0, 12, 10 ** 6, ())]
        self.assertEqual(plan_late(presses, needs, [("hoe", 11, "a", 10 ** 6)]), 0)
        self.assertIsNone(plan_late(presses, needs, [("hoe", 11, "a", 10 ** 6 + 1)]))


class Bounds(unittest.TestCase):
    def told(self, wanted, slots, names):
        self.assertEqual(bound(PRESSES, NEEDS, names), wanted)
        told = slots_of(PRESSES, NEEDS, names)
        self.assertEqual(told, slots)
        self.assertIs(type(told), list)
        self.assertTrue(all(type(slot) is tuple for slot in told))

    def test_no_names(self):
        self.told(0, [], ())
        self.assertEqual((bound([], [], ()), slots_of([], [], ())), (0, []))

    def test_one(self):
        self.told(6 - 12, [("cox", 0), ("cox", 1), ("hoe", 0)], ("a",))
        self.told(10 - 15, [("cox", 1), ("cox", 2), ("cox", 3)], ("b",))
        self.told(4 - 7, [("hoe", 2)], ("c",))
        self.told(2, [], ("d",))

    def test_one_twice(self):
        self.told(6 - 12, [("cox", 0), ("cox", 1), ("hoe", 0)], ("a", "a"))
        self.told(2, [], ("d", "d", "d"))

    def test_several(self):
        # A slot that is open to both counts once.
        slots = [("cox", 0), ("cox", 1), ("cox", 2), ("cox", 3), ("hoe", 0)]
        self.told(16 - 23, slots, ("a", "b"))
        self.told(16 - 23, slots, ("b", "a"))
        self.told(16 - 23, slots, ("b", "a", "b"))
        self.told(ALL - 30, slots + [("hoe", 2)], ("d", "c", "b", "a"))

    def test_rates_of_nought_and_hours_beyond(self):
        needs = [("a", 0, 12, 100, ()), ("b", 3, 12, 5, ("cox",))]
        self.assertEqual(slots_of(PRESSES, needs, ("a",)), [
            ("cox", 0), ("cox", 1), ("cox", 2), ("cox", 3), ("hoe", 0), ("hoe", 2),
        ])
        self.assertEqual(bound(PRESSES, needs, ("a",)), 70)
        self.assertEqual((slots_of(PRESSES, needs, ("b",)), bound(PRESSES, needs, ("b",))), ([], 5))

    def test_first_and_due(self):
        presses = [("hoe", (1,) * 12)]
        for first in range(12):
            for due in range(first + 1, 13):
                needs = [("a", first, due, 20, ())]
                self.assertEqual(slots_of(presses, needs, ("a",)), [("hoe", hour) for hour in range(first, due)])
                self.assertEqual(bound(presses, needs, ("a",)), 20 - (due - first))

    def test_bars(self):
        presses = [("hoe", (3,)), ("cox", (4,)), ("wal", (5,))]
        for bars, slots, rates in (
            ((), ["cox", "hoe", "wal"], 12), (("none",), ["cox", "hoe", "wal"], 12), (("cox",), ["hoe", "wal"], 8),
            (("cox", "none", "wal"), ["hoe"], 3), (("wal", "hoe", "cox"), [], 0), (("cox", "cox"), ["hoe", "wal"], 8),
        ):
            needs = [("a", 0, 1, 50, bars)]
            self.assertEqual(slots_of(presses, needs, ("a",)), [(name, 0) for name in slots])
            self.assertEqual(bound(presses, needs, ("a",)), 50 - rates)

    def test_unknown(self):
        for call in (bound, slots_of):
            self.assertEqual(refusal(Unknown, call, PRESSES, NEEDS, ("e",)).name, "e")
            self.assertEqual(refusal(Unknown, call, PRESSES, NEEDS, ("a", "z", "f", "b")).name, "z")
            self.assertEqual(refusal(Unknown, call, PRESSES, [], ("a",)).name, "a")
            self.assertEqual(refusal(Unknown, call, PRESSES, NEEDS, ("hoe",)).name, "hoe")

    def test_nothing_handed_in_is_changed_and_what_is_told_is_new(self):
        before = copy.deepcopy((PRESSES, NEEDS))
        told = slots_of(PRESSES, NEEDS, ("a", "b"))
        kept = list(told)
        told.clear()
        self.assertEqual(slots_of(PRESSES, NEEDS, ("a", "b")), kept)
        bound(PRESSES, NEEDS, ("a", "b"))
        self.assertEqual((PRESSES, NEEDS), before)
