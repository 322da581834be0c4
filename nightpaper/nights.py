"""A night: what is done in it, entered by hours, and what is told of it."""

from nightpaper.deals import ad_bill, dealt_copies, edition_bundles, good_sheets, lacking_sheets, white_sheets
from nightpaper.deeds import ask_entry
from nightpaper.errors import Hindered, NightError, NoPlace, TooMany, Unknown
from nightpaper.papers import Paper, ask_page, laid_page
from nightpaper.standings import Standing, done
from nightpaper.words import is_whole


def done_anew(standing, entries, at):
    """A standing and those behind each of the entries from a number on; Hindered of the first that is refused."""
    standings = [standing]
    for number in range(at, len(entries)):
        try:
            standings.append(done(standings[-1], entries[number][1]))
        except (NightError, Unknown, NoPlace, TooMany) as met:
            raise Hindered(number, met) from met
    return standings


class Night:
    """The entries of a night, and how it stands behind each of them."""

    def __init__(self, title, form, pages=4, keep=4, stay=5):
        self.paper = Paper(title, tuple(form), pages, keep, stay)
        self.entered = []
        # One more than there are entries: the first one stands ahead of all.
        self.standings = [Standing(self.paper)]

    def many_to(self, hour):
        """How many entries there are to an hour."""
        return len([entry for entry in self.entered if entry[0] <= hour])

    def behind(self, hour):
        """How the night stands behind all entries to an hour."""
        return self.standings[self.many_to(hour)]

    def enter(self, hour, deed):
        """A deed is entered behind all entries to its hour; NoHour, NoDeed, what the deed is refused with, Hindered."""
        ask_entry(hour, deed)
        at = self.many_to(hour)
        standing = done(self.standings[at], deed)
        entered = self.entered[:at] + [(hour, deed)] + self.entered[at:]
        self.standings = self.standings[:at + 1] + done_anew(standing, entered, at + 1)
        self.entered = entered

    def out(self, entry):
        """An entry is taken out by its number; NoPlace, of anything, Hindered."""
        many = len(self.entered)
        if not is_whole(entry) or not 0 <= entry < many:
            raise NoPlace(entry, many)
        entered = self.entered[:entry] + self.entered[entry + 1:]
        self.standings = self.standings[:entry] + done_anew(self.standings[entry], entered, entry)
        self.entered = entered

    def entries(self):
        """The entries, (hour, deed) each, by hours."""
        return list(self.entered)

    def page(self, hour, number):
        """A page as it stands; NoPlace, NoRoom."""
        ask_page(self.paper, number)
        return laid_page(self.paper, number, self.behind(hour).orders(number))

    def plate(self, hour, number, version):
        """A page as it was locked; NoPlace of the page, then of the version."""
        ask_page(self.paper, number)
        plates = self.behind(hour).plates.get(number, ())
        if not 1 <= version <= len(plates):
            raise NoPlace(version, len(plates))
        return laid_page(self.paper, number, plates[version - 1])

    def versions(self, hour):
        """How many versions each page has, a tuple."""
        return self.behind(hour).last_versions()

    def editions(self, hour):
        """The versions of each edition's pages, a dict from names."""
        made = self.behind(hour).made
        return {name: made[name] for name in made}

    def good(self, hour):
        """The good sheets, a dict from kinds."""
        return good_sheets(self.behind(hour))

    def lacking(self, hour):
        """What lacks for all wants together."""
        return lacking_sheets(self.behind(hour))

    def dealt(self, hour):
        """All wants above 0, with how many copies of each can be gathered."""
        return dealt_copies(self.behind(hour))

    def white(self, hour):
        """How many sheets were pulled, are in copies, are spoiled, are rests, a tuple."""
        return white_sheets(self.behind(hour))

    def bundles(self, hour, edition, size=50):
        """The bundles of an edition's wants as gathered; Unknown."""
        return edition_bundles(self.behind(hour), edition, size)

    def bill(self, hour, ad, rate=3):
        """What a booked advertisement costs; Unknown, NoCopies."""
        return ad_bill(self.behind(hour), ad, rate)
