"""The promise over the whole (point 3): nights by chance, held against a night that is found plainly."""

import random
import unittest

from nightpaper.desk import Desk
from nightpaper.errors import Hindered, NightError, NoPlace, NoRoom, TooMany, Unknown
from nightpaper.nights import Night
from nightpaper.nighttexts import made_again, night_by, night_text
from tests.nightly import all_told, bill_told, page_told, plate_told
from tests.nightplain import PlainNight, met_by, shown

REFUSALS = (NightError, Unknown, NoPlace, TooMany)
BODIES = ["", "\n", "one", "{up", "a}b", "{up so} {quote {low HE} said}"]


def words_by(chance, most):
    text = " ".join(chance.choice("abcde_~/") * chance.randint(1, 9) for _ in range(chance.randint(1, most)))
    return text if chance.random() < 0.7 else text.replace(" ", "\n", 2)


def deed_by(chance, form, pages):
    """A deed by chance, sometimes one that is refused."""
    name = chance.choice("abcdefgh")
    page = chance.choice([1, 1, 1, 2, 2, 3, 4]) if chance.random() < 0.95 else chance.choice([0, -1, pages + 1])
    edition = chance.choice(["early", "noon", "late"])
    word = chance.choice(
        "piece piece piece book book unbook fill fill fill late late lock lock lock lock lock lock edition edition "
        "run run run want want want".split()
    )
    if word == "piece":
        heads = tuple(words_by(chance, 7).replace("\n", " ") for _ in range(chance.randint(1, 3)))
        body = words_by(chance, chance.choice([9, 25, 90])) if chance.random() < 0.9 else chance.choice(BODIES)
        return (word, name, heads, body, chance.randint(0, 5), chance.randint(1, 9))
    if word == "book":
        return (word, chance.choice("wxyz"), page, chance.randint(1, form[0] + (chance.random() < 0.1)),
                words_by(chance, 8))
    if word == "unbook":
        return (word, chance.choice("wxyz"))
    if word == "fill":
        names = tuple(chance.choice("abcdefgh") for _ in range(chance.randint(0, 3)))
        return (word, page, chance.randint(0, form[0] - 1) if chance.random() < 0.95 else form[0], names)
    if word == "late":
        return (word, page, (name,) if chance.random() < 0.7 else ())
    if word == "lock":
        return (word, chance.randint(1, pages))
    if word == "edition":
        return (word, edition)
    if word == "run":
        pulled = chance.randint(0, 30)
        return (word, "hoe", edition, chance.randint(0, pages // 4 - (chance.random() < 0.9)), pulled,
                chance.randint(0, pulled // 2 + (chance.random() < 0.1)))
    return (word, chance.choice(["york", "hull"]), chance.choice(["ann", "bob"]), edition, chance.randint(0, 20))


class ByChance(unittest.TestCase):
    def entered(self, night, plain, hour, deed):
        """An entry of both nights, which refuse it alike; whether it was done."""
        entries, number = plain.entered(hour, deed)
        own = plain.refused([one for _hour, one in entries[:number]], deed)
        first = plain.first_refused(entries)
        before = night.entries()
        try:
            night.enter(hour, deed)
        except Hindered as met:
            self.assertIsNone(own)
            self.assertEqual((met.entry, shown(met.refusal)), first)
        except REFUSALS as met:
            self.assertEqual(shown(met), own)
        else:
            self.assertIsNone(first)
            plain.entries = entries
            return True
        self.assertEqual(night.entries(), before)
        return False

    def taken_out(self, night, plain, number):
        """An entry taken out of both nights, which refuse it alike."""
        entries = plain.entries[:number] + plain.entries[number + 1:]
        first = plain.first_refused(entries)
        try:
            night.out(number)
        except Hindered as met:
            self.assertEqual((met.entry, shown(met.refusal)), first)
        else:
            self.assertIsNone(first)
            plain.entries = entries

    def same_at(self, night, plain, hour):
        """All that both nights tell at an hour."""
        deeds = plain.deeds(hour)
        for page in range(1, plain.pages + 1):
            met = met_by(plain.laid, deeds, page)
            wanted = ("no room", met[1]) if met else plate_told(plain.laid(deeds, page))
            self.assertEqual(page_told(night, hour, page), wanted)
        versions = plain.versions(deeds)
        self.assertEqual(night.versions(hour), versions)
        for page, many in enumerate(versions, 1):
            for version in range(1, many + 1):
                wanted = plate_told(plain.plate(deeds, page, version))
                self.assertEqual(plate_told(night.plate(hour, page, version)), wanted)
        self.assertEqual(night.editions(hour), plain.editions(deeds))
        self.assertEqual(night.good(hour), plain.good(deeds))
        self.assertEqual(night.dealt(hour), plain.dealt(deeds))
        self.assertEqual(night.lacking(hour), plain.lacking(deeds))
        self.assertEqual(night.white(hour), plain.white(deeds))
        self.ads_at(night, plain, hour)

    def ads_at(self, night, plain, hour):
        """Each advertisement booked stands on its page or is told left out, and has its bill."""
        deeds = plain.deeds(hour)
        for ad in plain.ads(deeds):
            wanted = plain.bill(deeds, ad[1], 3), plain.bill(deeds, ad[1], 1000)
            self.assertEqual(bill_told(night, hour, ad[1]), "no copies" if wanted[0] is None else wanted)
            try:
                page = night.page(hour, ad[2])
            except NoRoom:
                continue
            self.assertIn(ad[1], [place[0] for place in page.places()] + page.missed())

    def made(self, chance):
        """A night by chance, and the plain one beside it."""
        form = (chance.randint(1, 3), chance.randint(16, 20), chance.randint(8, 24))
        made = (chance.choice([4, 4, 8]), chance.randint(0, 6), chance.randint(0, 9))
        return Night("times", form, *made), PlainNight("times", form, *made)

    def test_held_against_the_plain_night(self):
        done = 0
        for turn in range(40):
            chance = random.Random(turn)
            night, plain = self.made(chance)
            if turn % 2:
                for page in range(1, plain.pages + 1):
                    self.entered(night, plain, 0, ("lock", page))
                self.entered(night, plain, 3, ("edition", "early"))
            for _step in range(90):
                hour = chance.choice([0, 3, 3, 7, 7, 9, 23])
                done += self.entered(night, plain, hour, deed_by(chance, plain.form, plain.pages))
                if plain.entries and chance.random() < 0.1:
                    self.taken_out(night, plain, chance.randrange(len(plain.entries)))
            self.assertEqual(night.entries(), plain.entries)
            for hour in (0, 5, 7, 23):
                self.same_at(night, plain, hour)
            self.texts(night, plain)
        self.assertGreater(done, 1000)

    def texts(self, night, plain):
        """A night's text is read as it was written, and each plate is made again from it alone."""
        text = night_text(night)
        told = all_told(night, plain.pages, (0, 7, 23))
        self.assertEqual(all_told(night_by(text), plain.pages, (0, 7, 23)), told)
        self.assertEqual(night_text(night_by(text)), text)
        self.assertEqual(Desk(night).say("night"), text)
        for page, many in enumerate(night.versions(23), 1):
            for version in range(1, many + 1):
                plate = night.plate(23, page, version)
                self.assertEqual(plate_told(made_again(text, page, version)), plate_told(plate))


class InAnotherOrder(unittest.TestCase):
    def entries(self, chance, many):
        """Entries by hours of a night by chance, none refused."""
        night = Night("times", (2, 16, 14))
        while len(night.entries()) < many:
            deed = deed_by(chance, (2, 16, 14), 4)
            try:
                night.enter(min(23, len(night.entries()) * 24 // many), deed)
            except REFUSALS:
                continue
        return night

    def taken_down(self, chance, night):
        """All entries of a night, taken out one by one by chance, each time the last one of some hour."""
        taken = []
        while night.entries():
            entries = night.entries()
            hour = chance.choice([entry[0] for entry in entries])
            number = max(number for number, entry in enumerate(entries) if entry[0] == hour)
            try:
                night.out(number)
            except Hindered:
                continue
            taken.append(entries[number])
        return taken

    def test_a_night_of_many_entries(self):
        for turn in range(3):
            chance = random.Random(100 + turn)
            wanted = self.entries(chance, 120)
            # What can be taken out so can be entered again the other way round.
            order = self.taken_down(chance, night_by(night_text(wanted)))[::-1]
            self.assertNotEqual(order, wanted.entries())
            night = Night("times", (2, 16, 14))
            late = 0
            for hour, deed in order:
                late += any(entry[0] > hour for entry in night.entries())
                night.enter(hour, deed)
            self.assertGreater(late, 20)
            self.assertEqual(all_told(night), all_told(wanted))

    def let_by(self, night, entry):
        try:
            night.enter(*entry)
        except REFUSALS:
            return False
        return True

    def test_entered_and_taken_out_again(self):
        for turn in range(4):
            chance = random.Random(200 + turn)
            night = self.entries(chance, 60)
            before = all_told(night)
            many = 0
            while many < 15:
                hour = chance.randint(0, 23)
                deed = deed_by(chance, (2, 16, 14), 4)
                number = len([entry for entry in night.entries() if entry[0] <= hour])
                if self.let_by(night, (hour, deed)):
                    self.assertEqual(night.entries()[number], (hour, deed))
                    night.out(number)
                    many += 1
                self.assertEqual(night.entries(), before[0])
            self.assertEqual(all_told(night), before)


class FitTogether(unittest.TestCase):
    def test_sheets_of_nights_by_chance(self):
        counted = 0
        for turn in range(60):
            chance = random.Random(300 + turn)
            pages = chance.choice([4, 8])
            night = Night("times", (1, 16, 8), pages)
            for page in range(1, pages + 1):
                night.enter(0, ("lock", page))
            for _step in range(70):
                try:
                    night.enter(chance.randint(0, 5), deed_by(chance, (1, 16, 8), pages))
                except REFUSALS:
                    continue
            for hour in range(6):
                pulled, in_copies, spoiled, left = night.white(hour)
                self.assertEqual(pulled, in_copies + spoiled + left)
                self.assertEqual(pulled - spoiled, sum(night.good(hour).values()))
                bundles = [bundle for name in night.editions(hour) for bundle in night.bundles(hour, name, 6)]
                copies = sum(row[3] for row in night.dealt(hour))
                self.assertEqual(sum(bundle.copies for bundle in bundles), copies)
                counted += copies
        self.assertGreater(counted, 1000)
