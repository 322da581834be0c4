"""The accounts of sellers (points 2, 3 and 25 to 27)."""

import itertools
import random
import unittest

from nightpaper.errors import TooLate, TooMany, Unknown
from nightpaper.ledgers import Ledger
from nightpaper.words import money_text
from tests.things import NO_TEXTS, ODD_TEXTS, refusal


def told(deeds, **made):
    """A ledger that was told deeds, each a method's name and its arguments."""
    ledger = Ledger(**made)
    for method, *arguments in deeds:
        getattr(ledger, method)(*arguments)
    return ledger


def all_told(ledger):
    """All that a ledger tells, so that a change anywhere is seen."""
    sellers = ledger.sellers()
    by_sellers = [(name, ledger.account(name), ledger.owes(name), ledger.statement(name)) for name in sellers]
    return sellers, by_sellers, len(ledger), str(ledger)


class Sendings(unittest.TestCase):
    def test_several_of_a_night_add_up(self):
        ledger = told([("send", "ann", 3, 5), ("send", "ann", 3, 7), ("send", "ann", 4, 1)])
        self.assertEqual(ledger.account("ann"), [(3, 12, 0, 24), (4, 1, 0, 2)])

    def test_nights_of_several_sellers(self):
        ledger = told([("send", "bob", 0, 5), ("send", "ann", 0, 7), ("send", "bob", 9, 1)])
        self.assertEqual(ledger.sellers(), ["ann", "bob"])
        self.assertEqual(ledger.account("ann"), [(0, 7, 0, 14)])
        self.assertEqual(ledger.account("bob"), [(0, 5, 0, 10), (9, 1, 0, 2)])

    def test_each_is_none(self):
        ledger = Ledger()
        self.assertIsNone(ledger.send("ann", 0, 5))
        self.assertIsNone(ledger.back("ann", 0, 1, 2))
        self.assertIsNone(ledger.pay("ann", 3))
        self.assertIsNone(ledger.price_from(0, 1))

    def test_two_ledgers_share_nothing(self):
        one, other = Ledger(), Ledger()
        one.send("ann", 0, 5)
        one.price_from(0, 9)
        self.assertEqual((len(one), len(other)), (1, 0))
        other.send("bob", 0, 5)
        self.assertEqual(other.owes("bob"), 10)


class Returns(unittest.TestCase):
    def test_up_to_all_that_are_out(self):
        ledger = told([("send", "ann", 3, 5), ("send", "ann", 3, 5)])
        ledger.back("ann", 3, 3, 4)
        ledger.back("ann", 3, 4, 6)
        self.assertEqual(ledger.account("ann"), [(3, 10, 10, 0)])

    def test_one_more_is_too_many(self):
        ledger = told([("send", "ann", 3, 10), ("back", "ann", 3, 4, 4), ("send", "bob", 3, 90)])
        before = all_told(ledger)
        met = refusal(TooMany, ledger.back, "ann", 3, 4, 7)
        self.assertEqual((met.asked, met.most, str(met)), (7, 6, "7 above 6"))
        self.assertEqual(all_told(ledger), before)
        ledger.back("ann", 3, 4, 6)
        met = refusal(TooMany, ledger.back, "ann", 3, 4, 1)
        self.assertEqual((met.asked, met.most), (1, 0))

    def test_of_a_night_for_which_nothing_was_sent(self):
        ledger = told([("send", "ann", 3, 10)])
        met = refusal(TooMany, ledger.back, "ann", 2, 3, 1)
        self.assertEqual((met.asked, met.most), (1, 0))
        self.assertEqual(ledger.account("ann"), [(3, 10, 0, 20)])

    def test_in_the_night_itself_and_in_the_last_one_within(self):
        for within in (0, 1, 3, 10):
            for night in (0, 7):
                for later in range(within + 1):
                    ledger = told([("send", "ann", night, 10)], within=within)
                    ledger.back("ann", night, night + later, 1)
                    self.assertEqual(ledger.account("ann"), [(night, 10, 1, 18)])

    def test_too_late(self):
        for within, later in ((0, 1), (3, 4), (3, 5), (3, 30)):
            ledger = told([("send", "ann", 5, 10)], within=within)
            before = all_told(ledger)
            met = refusal(TooLate, ledger.back, "ann", 5, 5 + later, 1)
            self.assertEqual(met.by, later - within)
            self.assertEqual(all_told(ledger), before)
            self.assertEqual(ledger, told([("send", "ann", 5, 10)], within=within))

    def test_within_left_out_is_three(self):
        ledger = told([("send", "ann", 0, 10)])
        ledger.back("ann", 0, 3, 1)
        self.assertEqual(refusal(TooLate, ledger.back, "ann", 0, 4, 1).by, 1)

    def test_unknown_ahead_of_too_late_ahead_of_too_many(self):
        ledger = told([("send", "ann", 5, 10)])
        self.assertEqual(refusal(Unknown, ledger.back, "bob", 5, 90, 99).name, "bob")
        self.assertEqual(refusal(Unknown, ledger.back, "bob", 5, 5, 99).name, "bob")
        self.assertEqual(refusal(TooLate, ledger.back, "ann", 5, 90, 99).by, 82)
        self.assertEqual(refusal(TooMany, ledger.back, "ann", 5, 8, 99).asked, 99)

    def test_a_seller_that_only_a_price_or_a_refusal_spoke_of(self):
        ledger = Ledger()
        ledger.price_from(0, 3)
        refusal(Unknown, ledger.back, "ann", 0, 0, 1)
        refusal(Unknown, ledger.pay, "ann", 1)
        self.assertEqual(ledger.sellers(), [])
        self.assertEqual(refusal(Unknown, ledger.back, "ann", 0, 0, 1).name, "ann")


class Payments(unittest.TestCase):
    def test_above_nought_below_it_and_nought(self):
        ledger = told([("send", "ann", 0, 10)])
        for pence, owes in ((5, 15), (0, 15), (-7, 22), (30, -8), (10 ** 12, -8 - 10 ** 12), (-10 ** 12, -8)):
            ledger.pay("ann", pence)
            self.assertEqual(ledger.owes("ann"), owes)

    def test_unknown(self):
        ledger = told([("send", "ann", 0, 10)])
        before = all_told(ledger)
        for pence in (5, 0, -5):
            self.assertEqual(refusal(Unknown, ledger.pay, "bob", pence).name, "bob")
        self.assertEqual(all_told(ledger), before)
        self.assertEqual(ledger, told([("send", "ann", 0, 10)]))

    def test_of_one_seller_alone(self):
        ledger = told([("send", "ann", 0, 10), ("send", "bob", 0, 10), ("pay", "ann", 4)])
        self.assertEqual((ledger.owes("ann"), ledger.owes("bob")), (16, 20))


class Prices(unittest.TestCase):
    def cost(self, night, prices, copies=1, price=100):
        ledger = told([("send", "ann", night, copies)] + [("price_from", *one) for one in prices], price=price)
        return ledger.account("ann")[0][3]

    def test_none_told(self):
        self.assertEqual(self.cost(5, []), 100)
        self.assertEqual(told([("send", "ann", 0, 1)]).owes("ann"), 2)

    def test_from_nights_ahead_of_at_and_behind_it(self):
        prices = [(3, 7), (5, 9), (8, 11)]
        wanted = [100, 100, 100, 7, 7, 9, 9, 9, 11, 11]
        for order in itertools.permutations(prices):
            self.assertEqual([self.cost(night, order) for night in range(10)], wanted)

    def test_told_again_from_that_very_night(self):
        self.assertEqual(self.cost(5, [(5, 9), (5, 4)]), 4)
        self.assertEqual(self.cost(5, [(5, 9), (3, 7), (5, 4)]), 4)
        self.assertEqual(self.cost(4, [(3, 9), (5, 2), (3, 4)]), 4)

    def test_of_nought(self):
        self.assertEqual(self.cost(5, [(5, 0)]), 0)
        self.assertEqual(self.cost(5, [], price=0), 0)

    def test_told_before_all_sendings_and_behind_returns(self):
        ledger = told([("price_from", 2, 5), ("send", "ann", 2, 10), ("back", "ann", 2, 2, 4)])
        self.assertEqual(ledger.owes("ann"), 30)
        ledger.price_from(1, 7)
        self.assertEqual(ledger.owes("ann"), 30)
        ledger.price_from(2, 1)
        self.assertEqual(ledger.owes("ann"), 6)


class FreeCopies(unittest.TestCase):
    def test_one_less_than_free_free_and_twice_free(self):
        for free in (2, 3, 13):
            for copies in range(1, 3 * free + 1):
                ledger = told([("send", "ann", 0, copies)], price=1, free=free)
                paid = sum(1 for number in range(1, copies + 1) if number % free)
                self.assertEqual(ledger.owes("ann"), paid)
        costs = [told([("send", "ann", 0, copies)]).owes("ann") for copies in (12, 13, 14, 25, 26, 27)]
        self.assertEqual(costs, [24, 24, 26, 48, 48, 50])

    def test_what_came_back_is_counted_out_first(self):
        ledger = told([("send", "ann", 0, 14), ("back", "ann", 0, 0, 1)])
        self.assertEqual(ledger.account("ann"), [(0, 14, 1, 24)])
        ledger.back("ann", 0, 0, 1)
        self.assertEqual(ledger.account("ann"), [(0, 14, 2, 24)])
        ledger.back("ann", 0, 0, 1)
        self.assertEqual(ledger.account("ann"), [(0, 14, 3, 22)])

    def test_of_each_night_for_itself(self):
        ledger = told([("send", "ann", 0, 12), ("send", "ann", 1, 12)])
        self.assertEqual(ledger.owes("ann"), 48)

    def test_great_counts(self):
        ledger = told([("send", "ann", 0, 10 ** 6)], price=10 ** 6)
        self.assertEqual(ledger.owes("ann"), (10 ** 6 - 76923) * 10 ** 6)


class Told(unittest.TestCase):
    deeds = [
        ("send", "bob", 12, 30), ("send", "ann", 2, 14), ("send", "bob", 3, 13), ("back", "bob", 12, 14, 5),
        ("back", "ann", 2, 2, 14), ("pay", "bob", 295), ("price_from", 10, 30), ("pay", "ann", -5),
    ]

    def test_sellers_sorted(self):
        ledger = told([("send", name, 0, 1) for name in ("c", "a", "bb", "b", "aa")])
        self.assertEqual(ledger.sellers(), ["a", "aa", "b", "bb", "c"])
        self.assertEqual(len(ledger), 5)

    def test_accounts_by_nights(self):
        ledger = told([("send", "ann", night, 1) for night in (10, 2, 9, 0, 100)])
        self.assertEqual([row[0] for row in ledger.account("ann")], [0, 2, 9, 10, 100])

    def test_account(self):
        ledger = told(self.deeds)
        self.assertEqual(ledger.account("bob"), [(3, 13, 0, 24), (12, 30, 5, 24 * 30)])
        self.assertEqual(ledger.account("ann"), [(2, 14, 14, 0)])
        self.assertEqual((ledger.owes("ann"), ledger.owes("bob")), (5, 24 + 720 - 295))

    def test_statement(self):
        ledger = told(self.deeds)
        self.assertEqual(ledger.statement("bob"), (
            "night 3 sent 13 back 0 0-02-00\nnight 12 sent 30 back 5 3-00-00\npaid 1-04-07\nowes 1-17-05"
        ))
        self.assertEqual(ledger.statement("ann"), "night 2 sent 14 back 14 0-00-00\npaid -0-00-05\nowes 0-00-05")
        ledger.pay("ann", 300)
        self.assertEqual(ledger.statement("ann"), "night 2 sent 14 back 14 0-00-00\npaid 1-04-07\nowes -1-04-07")

    def test_text(self):
        self.assertEqual(str(told(self.deeds)), "ann owes 0-00-05\nbob owes 1-17-05")

    def test_without_sellers(self):
        ledger = told([("price_from", 0, 3)])
        self.assertEqual((len(ledger), str(ledger), ledger.sellers()), (0, "", []))

    def test_unknown(self):
        ledger = told(self.deeds)
        for method in ("account", "owes", "statement"):
            for name in ("cid", "an", "anna"):
                met = refusal(Unknown, getattr(ledger, method), name)
                self.assertEqual((met.name, str(met)), (name, f"no {name}"))

    def test_lists_are_new_ones(self):
        ledger = told(self.deeds)
        before = all_told(ledger)
        sellers, account = ledger.sellers(), ledger.account("bob")
        self.assertEqual((type(sellers), type(account)), (list, list))
        self.assertEqual([type(row) for row in account], [tuple, tuple])
        sellers.append("cid")
        account.clear()
        self.assertEqual(all_told(ledger), before)

    def test_each_method_is_the_class_s_own(self):
        own = "send back pay price_from sellers account owes statement __init__ __eq__ __len__ __str__".split()
        for name in own:
            self.assertIn(name, vars(Ledger))

    def test_made_by_names_and_asked_by_names(self):
        ledger = Ledger(within=1, free=2, price=5)
        ledger.send(copies=4, night=2, seller="ann")
        ledger.back(copies=1, told=3, night=2, seller="ann")
        ledger.pay(pence=3, seller="ann")
        ledger.price_from(price=7, night=1)
        self.assertEqual(ledger.account(seller="ann"), [(2, 4, 1, 14)])
        self.assertEqual((ledger.owes(seller="ann"), ledger.statement(seller="ann")[-12:]), (11, "owes 0-00-11"))
        self.assertEqual(ledger, told(
            [("send", "ann", 2, 4), ("back", "ann", 2, 3, 1), ("pay", "ann", 3), ("price_from", 1, 7)],
            price=5, free=2, within=1,
        ))


class Alike(unittest.TestCase):
    deeds = [
        ("send", "ann", 2, 14), ("send", "bob", 3, 13), ("back", "ann", 2, 2, 4), ("pay", "bob", 29),
        ("price_from", 2, 3),
    ]

    def alike(self, one, other, wanted):
        self.assertIs(one == other, wanted)
        self.assertIs(other == one, wanted)
        self.assertIs(one != other, not wanted)

    def test_the_same(self):
        self.alike(Ledger(), Ledger(), True)
        self.alike(told(self.deeds), told(self.deeds), True)
        self.alike(Ledger(2, 13, 3), Ledger(), True)

    def test_summed_up(self):
        more = [("send", "ann", 2, 4), ("send", "ann", 2, 10), *self.deeds[1:2], ("back", "ann", 2, 3, 3),
                ("back", "ann", 2, 5, 1), ("pay", "bob", 30), ("pay", "bob", -1), self.deeds[4]]
        self.alike(told(self.deeds), told(more), True)

    def test_returns_told_in_other_nights(self):
        self.alike(told(self.deeds), told([*self.deeds[:2], ("back", "ann", 2, 5, 4), *self.deeds[3:]]), True)

    def test_nought_paid_is_as_none(self):
        self.alike(told(self.deeds), told([*self.deeds, ("pay", "ann", 0)]), True)
        self.alike(told(self.deeds), told([*self.deeds, ("pay", "ann", 7), ("pay", "ann", -7)]), True)

    def test_a_price_told_again(self):
        self.alike(told(self.deeds), told([("price_from", 2, 9), *self.deeds]), True)
        self.alike(told(self.deeds), told([*self.deeds, ("price_from", 2, 3)]), True)
        self.alike(told(self.deeds), told([*self.deeds, ("price_from", 2, 4)]), False)

    def test_a_price_that_changes_nothing_was_told_all_the_same(self):
        self.alike(told(self.deeds), told([*self.deeds, ("price_from", 90, 5)]), False)
        self.alike(Ledger(), told([("price_from", 0, 2)]), False)

    def test_unlike_by_one_thing(self):
        one = told(self.deeds)
        for more in (
            ("send", "ann", 2, 1), ("send", "ann", 3, 1), ("send", "cid", 2, 1), ("back", "ann", 2, 2, 1),
            ("back", "bob", 3, 3, 1), ("pay", "bob", 1), ("pay", "ann", 1), ("pay", "ann", -1), ("price_from", 3, 3),
        ):
            self.alike(one, told([*self.deeds, more]), False)
        for made in ({"price": 3}, {"free": 12}, {"within": 2}):
            self.alike(told(self.deeds), told(self.deeds, **made), False)
            self.alike(Ledger(), Ledger(**made), False)
        for left_out in (2, 3, 4):
            self.alike(one, told(self.deeds[:left_out] + self.deeds[left_out + 1:]), False)

    def test_sent_and_come_back_in_another_night_of_the_same_cost(self):
        one = told([("send", "ann", 0, 5), ("send", "ann", 1, 5), ("back", "ann", 0, 0, 1)])
        other = told([("send", "ann", 0, 5), ("send", "ann", 1, 5), ("back", "ann", 1, 1, 1)])
        self.assertEqual(one.owes("ann"), other.owes("ann"))
        self.alike(one, other, False)

    def test_of_another_seller(self):
        self.alike(told([("send", "ann", 0, 5)]), told([("send", "bob", 0, 5)]), False)
        both = [("send", "ann", 0, 5), ("send", "bob", 0, 5)]
        self.alike(told([*both, ("pay", "ann", 1)]), told([*both, ("pay", "bob", 1)]), False)

    def test_what_was_refused_leaves_no_trace(self):
        one = told(self.deeds)
        refusal(Unknown, one.back, "cid", 0, 0, 1)
        refusal(Unknown, one.pay, "cid", 0)
        refusal(TooLate, one.back, "bob", 3, 90, 1)
        refusal(TooMany, one.back, "bob", 3, 3, 14)
        refusal(TooMany, one.back, "bob", 4, 4, 1)
        self.alike(one, told(self.deeds), True)

    def test_other_things(self):
        ledger = told(self.deeds)
        for thing in [*NO_TEXTS, *ODD_TEXTS, str(ledger)]:
            self.alike(ledger, thing, False)
            self.alike(Ledger(), thing, False)


class EveryOrder(unittest.TestCase):
    def test_all_orders_that_are_let_by(self):
        deeds = [
            ("send", "ann", 2, 9), ("send", "ann", 2, 5), ("back", "ann", 2, 3, 6), ("pay", "ann", 3),
            ("price_from", 2, 7), ("price_from", 1, 5), ("send", "ann", 1, 14),
        ]
        wanted = told(deeds)
        many = 0
        for order in itertools.permutations(deeds):
            try:
                ledger = told(order)
            except (Unknown, TooMany):
                continue
            many += 1
            self.assertEqual(all_told(ledger), all_told(wanted))
            self.assertTrue(ledger == wanted)
        self.assertGreater(many, 500)

    def test_orders_by_chance(self):
        chance = random.Random(25)
        for _turn in range(50):
            deeds = [("send", chance.choice("abc"), chance.randint(0, 3), chance.randint(1, 20)) for _ in range(12)]
            deeds += [("price_from", night, chance.randint(0, 9)) for night in chance.sample(range(5), 3)]
            backs = [("back", name, night, night + 1, 1) for _send, name, night, _copies in deeds[:5]]
            pays = [("pay", deed[1], chance.randint(-20, 90)) for deed in deeds[:6]]
            sends, rest = deeds[:12], deeds[12:] + backs + pays
            ledgers = []
            for _order in range(3):
                chance.shuffle(sends)
                chance.shuffle(rest)
                ledgers.append(told(sends + rest))
            self.assertEqual(all_told(ledgers[0]), all_told(ledgers[1]))
            self.assertEqual(all_told(ledgers[0]), all_told(ledgers[2]))
            self.assertTrue(ledgers[0] == ledgers[1] == ledgers[2])
            for name in ledgers[0].sellers():
                costs = sum(row[3] for row in ledgers[0].account(name))
                paid = sum(pence for _pay, seller, pence in pays if seller == name)
                self.assertEqual(ledgers[0].owes(name), costs - paid)
                self.assertIn(f"{name} owes {money_text(costs - paid)}", str(ledgers[0]).split("\n"))
