"""The plan with the fewest sheets late (points 2, 3, 20 and 22)."""

import copy
import itertools
import random
import unittest

from nightpaper.planlooks import bound, plan_late
from nightpaper.presses import planned

NAMES = "abcdefghijklmnopqrstuvwxyz"


def fewest_late(presses, needs):
    """The fewest sheets late of all plans there are, slot by slot, each way of which needs have what of it."""
    slots = [(name, hour, rate) for name, rates in presses for hour, rate in enumerate(rates) if rate]
    states = {tuple(need[3] for need in needs)}
    for press, hour, rate in slots:
        fits = [need[1] <= hour < need[2] and press not in need[4] for need in needs]
        reached = set()
        for state in states:
            most = [min(left, rate) if open_ else 0 for left, open_ in zip(state, fits)]
            for given in itertools.product(*[range(many + 1) for many in most]):
                if sum(given) <= rate:
                    reached.add(tuple(left - many for left, many in zip(state, given)))
        states = reached
    return min(sum(state) for state in states)


def greatest_bound(presses, needs):
    """The greatest bound of any names, which no plan's late is below."""
    names = [need[0] for need in needs]
    some = [names_of for many in range(len(names) + 1) for names_of in itertools.combinations(names, many)]
    return max(bound(presses, needs, names_of) for names_of in some)


def some_shop(chance, presses, hours, needs, rate, many):
    """A shop by chance, of at most so many of each."""
    names = NAMES[:chance.randrange(presses + 1)]
    shop = [
        (name, tuple(chance.randrange(rate + 1) for _hour in range(chance.randrange(1, hours + 1)))) for name in names
    ]
    chance.shuffle(shop)
    asked = []
    for name in chance.sample(NAMES, chance.randrange(needs + 1)):
        first = chance.randrange(hours)
        due = chance.randrange(first + 1, min(hours + 1, 12) + 1)
        bars = tuple(chance.sample(NAMES[:presses + 2], chance.randrange(3)))
        asked.append((name, first, due, chance.randrange(1, many + 1), bars))
    return shop, asked


class Planned(unittest.TestCase):
    def told(self, presses, needs):
        """What is told, held against what holds of each such plan."""
        before = copy.deepcopy((presses, needs))
        told = planned(presses, needs)
        self.assertEqual((presses, needs), before)
        self.assertIs(type(told), tuple)
        plan, late, names = told
        self.assertEqual([type(part) for part in told], [list, int, tuple])
        self.assertTrue(all(type(entry) is tuple for entry in plan))
        self.assertEqual(plan_late(presses, needs, plan), late)
        self.assertEqual(bound(presses, needs, names), late)
        self.assertEqual(list(names), sorted(set(names)))
        self.assertLessEqual(set(names), {need[0] for need in needs})
        again = planned(copy.deepcopy(presses), copy.deepcopy(needs))
        self.assertEqual(again, told)
        return told

    def test_no_presses(self):
        self.assertEqual(self.told([], [("a", 0, 3, 5, ()), ("b", 0, 12, 1, ("hoe",))])[:2], ([], 6))
        self.assertEqual(self.told([], []), ([], 0, ()))

    def test_no_needs(self):
        self.assertEqual(self.told([("hoe", (5, 5))], []), ([], 0, ()))

    def test_needs_that_none_can_print(self):
        presses = [("hoe", (5, 0)), ("cox", (5,))]
        needs = [("a", 1, 12, 3, ()), ("b", 0, 12, 4, ("hoe", "cox")), ("c", 0, 12, 9, ())]
        plan, late, names = self.told(presses, needs)
        self.assertEqual(late, 7)
        self.assertEqual(names, ("a", "b"))
        self.assertEqual(sum(entry[3] for entry in plan), 9)

    def test_one_press_and_one_need(self):
        for rate in (0, 1, 4, 5, 6):
            told = self.told([("hoe", (rate,))], [("a", 0, 1, 5, ())])
            printed = min(rate, 5)
            self.assertEqual(told[0], [("hoe", 0, "a", printed)] if printed else [])
            self.assertEqual(told[1], 5 - printed)
            if printed < 5:
                self.assertEqual(told[2], ("a",))

    def test_sheets_are_handed_on(self):
        # Each later need may be printed in fewer slots: those ahead of it must make room.
        presses = [("hoe", (10, 10, 10))]
        needs = [("a", 0, 3, 10, ()), ("b", 0, 2, 10, ()), ("c", 0, 1, 10, ())]
        for order in itertools.permutations(needs):
            plan, late, _names = self.told(presses, list(order))
            self.assertEqual(late, 0)
            self.assertEqual(plan, [("hoe", 0, "c", 10), ("hoe", 1, "b", 10), ("hoe", 2, "a", 10)])

    def test_handed_on_over_many_slots(self):
        # Need k may be printed in the hours k and k + 1, the last one in hour 0 alone.
        presses = [("hoe", (7,) * 12)]
        needs = [(NAMES[hour], hour, min(hour + 2, 12), 7, ()) for hour in range(11)] + [("z", 0, 1, 7, ())]
        for order in (needs, needs[::-1]):
            self.assertEqual(self.told(presses, order)[1], 0)
        needs.append(("y", 0, 12, 5, ()))
        for order in (needs, needs[::-1]):
            self.assertEqual(self.told(presses, order)[1], 5)

    def test_bars(self):
        presses = [("hoe", (4, 4)), ("cox", (4, 4))]
        needs = [("a", 0, 2, 8, ()), ("b", 0, 2, 8, ("hoe",)), ("c", 0, 2, 2, ("cox", "none"))]
        plan, late, names = self.told(presses, needs)
        self.assertEqual(late, 2)
        self.assertEqual(names, ("a", "b", "c"))
        self.assertTrue(all(entry[0] == "cox" for entry in plan if entry[2] == "b"))

    def test_in_parts(self):
        presses = [("hoe", (3, 3, 3, 3))]
        plan, late, _names = self.told(presses, [("a", 0, 4, 7, ()), ("b", 1, 3, 5, ())])
        self.assertEqual(late, 0)
        self.assertEqual(sum(entry[3] for entry in plan), 12)

    def test_none_late_names_whose_bound_is_nought(self):
        told = self.told([("hoe", (5, 5))], [("a", 0, 2, 10, ())])
        self.assertEqual(told[:2], ([("hoe", 0, "a", 5), ("hoe", 1, "a", 5)], 0))

    def test_the_names_show_that_no_plan_has_fewer(self):
        presses = [("hoe", (5, 5, 5))]
        needs = [("a", 0, 1, 4, ()), ("b", 0, 1, 4, ()), ("c", 1, 3, 9, ())]
        self.assertEqual(self.told(presses, needs)[1:], (3, ("a", "b")))

    def test_held_against_all_plans_of_small_shops(self):
        chance = random.Random(22)
        lates = []
        for _turn in range(300):
            presses, needs = some_shop(chance, 2, 2, 3, 3, 4)
            late = self.told(presses, needs)[1]
            self.assertEqual(late, fewest_late(presses, needs))
            lates.append(late)
        self.assertGreater(lates.count(0), 30)
        self.assertGreater(len(lates) - lates.count(0), 30)

    def test_held_against_all_bounds(self):
        chance = random.Random(23)
        for _turn in range(60):
            presses, needs = some_shop(chance, 4, 5, 7, 30, 60)
            self.assertEqual(self.told(presses, needs)[1], greatest_bound(presses, needs))

    def test_great_shops(self):
        chance = random.Random(24)
        for rate in (1, 100, 10 ** 6):
            for many in (3, rate, 3 * rate):
                presses = [(name, tuple(chance.randrange(rate + 1) for _hour in range(12))) for name in NAMES[:6]]
                needs = []
                for name in NAMES[:24]:
                    first = chance.randrange(12)
                    bars = tuple(chance.sample(NAMES[:6], chance.randrange(6)))
                    needs.append((name, first, chance.randrange(first + 1, 13), chance.randrange(1, many + 1), bars))
                self.told(presses, needs)

    def test_a_full_shop(self):
        presses = [(name, (10 ** 6,) * 12) for name in NAMES[:6]]
        needs = [(name, 0, 12, 10 ** 6, ()) for name in NAMES[:24]]
        self.assertEqual(self.told(presses, needs)[1], 0)
        presses = [(name, (1,) * 12) for name in NAMES[:6]]
        self.assertEqual(self.told(presses, needs)[1:], (24 * 10 ** 6 - 72, tuple(NAMES[:24])))

    def test_what_is_told_is_new(self):
        presses, needs = [("hoe", (5, 5))], [("a", 0, 2, 8, ())]
        told = planned(presses, needs)
        kept = copy.deepcopy(told)
        told[0].clear()
        self.assertEqual(planned(presses, needs), kept)
