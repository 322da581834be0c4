"""A night found plainly: each question looks through all entries ahead of a place anew, and nothing is kept."""

from nightpaper.ads import ad_block
from nightpaper.errors import (
    NoCopy, NoFit, NoPlace, NoRoom, NotLocked, Taken, TooMany, Twice, Unknown,
)
from nightpaper.heads import first_head
from nightpaper.latenews import late_in
from nightpaper.markup import plain
from nightpaper.pages import page_of
from nightpaper.pieces import Piece
from nightpaper.sheets import sheet_pages

FIELDS = {
    NoCopy: "at", NoFit: "rows", NoPlace: "number many", NoRoom: "lack", NotLocked: "number", Taken: "name",
    TooMany: "asked most", Twice: "name", Unknown: "name",
}


def met_by(call, *arguments):
    """The refusal that a call meets, with its fields, None where it meets none."""
    try:
        call(*arguments)
    except tuple(FIELDS) as met:
        return shown(met)
    return None


def shown(met):
    """A refusal's class and its fields."""
    return (type(met), *[getattr(met, field) for field in FIELDS[type(met)].split()])


class PlainNight:
    def __init__(self, title, form, pages=4, keep=4, stay=5):
        self.title, self.form, self.pages, self.keep, self.stay = title, form, pages, keep, stay
        self.entries = []

    def deeds(self, hour):
        """The deeds of all entries to an hour."""
        return [deed for entered, deed in self.entries if entered <= hour]

    # What stands behind some deeds.

    def piece(self, deeds, name):
        last = [deed for deed in deeds if deed[:2] == ("piece", name)][-1]
        return Piece(last[1], last[2], last[3], last[4], last[5])

    def ads(self, deeds, page=None):
        """The booked advertisements, of a page or of all."""
        booked = []
        for deed in deeds:
            if deed[0] == "book":
                booked.append(deed)
            if deed[0] == "unbook":
                booked = [other for other in booked if other[1] != deed[1]]
        return [deed for deed in booked if page in (None, deed[2])]

    def column(self, deeds, page, column):
        return ([()] + [deed[3] for deed in deeds if deed[:3] == ("fill", page, column)])[-1]

    def late(self, deeds, page):
        return ([()] + [deed[2] for deed in deeds if deed[:2] == ("late", page)])[-1]

    def laid(self, deeds, page):
        """The plain laying of the last orders."""
        ads = [(name, span, words) for _book, name, _page, span, words in self.ads(deeds, page)]
        columns = [
            [self.piece(deeds, name) for name in self.column(deeds, page, column)] for column in range(self.form[0])
        ]
        late = self.late(deeds, page)
        if not late:
            return page_of(self.form, self.title, page, ads, columns, self.keep)
        news = self.piece(deeds, late[0])
        return late_in(self.form, self.title, page, ads, columns, news, self.stay, self.keep)[1]

    def locks(self, deeds, page):
        """The numbers of the deeds that locked a page."""
        return [number for number, deed in enumerate(deeds) if deed == ("lock", page)]

    def plate(self, deeds, page, version):
        return self.laid(deeds[:self.locks(deeds, page)[version - 1]], page)

    def versions(self, deeds):
        return tuple(len(self.locks(deeds, page)) for page in range(1, self.pages + 1))

    def editions(self, deeds):
        return {deed[1]: self.versions(deeds[:number]) for number, deed in enumerate(deeds) if deed[0] == "edition"}

    # What is refused.

    def refused(self, deeds, deed):
        """What a deed is refused with behind others, as shown tells it; None where it is done."""
        return getattr(self, "refused_" + deed[0])(deeds, *deed[1:])

    def no_page(self, page):
        return None if 1 <= page <= self.pages else (NoPlace, page, self.pages)

    def no_piece(self, deeds, names):
        known = [deed[1] for deed in deeds if deed[0] == "piece"]
        return next(((Unknown, name) for name in names if name not in known), None)

    def no_edition(self, deeds, name):
        return None if ("edition", name) in deeds else (Unknown, name)

    def no_room(self, deeds, page):
        return met_by(self.laid, deeds, page)

    def refused_piece(self, _deeds, _name, heads, body, _least, _rank):
        return met_by(plain, body) or met_by(first_head, heads, self.form[1])

    def refused_book(self, deeds, name, page, span, _words):
        if name in [ad[1] for ad in self.ads(deeds)]:
            return (Taken, name)
        return self.no_page(page) or (None if span <= self.form[0] else (NoPlace, span, self.form[0]))

    def refused_unbook(self, deeds, name):
        return None if name in [ad[1] for ad in self.ads(deeds)] else (Unknown, name)

    def places(self, deeds):
        """All names that stand in columns or are late, each (name, page, column), the column None of a late one."""
        told = []
        for page in range(1, self.pages + 1):
            told += [(name, page, None) for name in self.late(deeds, page)]
            for column in range(self.form[0]):
                told += [(name, page, column) for name in self.column(deeds, page, column)]
        return told

    def refused_fill(self, deeds, page, column, names):
        if self.no_page(page):
            return self.no_page(page)
        if not 0 <= column < self.form[0]:
            return (NoPlace, column, self.form[0])
        if self.no_piece(deeds, names):
            return self.no_piece(deeds, names)
        others = [place[0] for place in self.places(deeds) if place[1:] != (page, column)]
        for number, name in enumerate(names):
            if name in names[:number] or name in others:
                return (Twice, name)
        return None

    def refused_late(self, deeds, page, names):
        if self.no_page(page) or self.no_piece(deeds, names):
            return self.no_page(page) or self.no_piece(deeds, names)
        others = [place[0] for place in self.places(deeds) if place[1:] != (page, None)]
        if names and names[0] in others:
            return (Twice, names[0])
        return self.no_room(deeds + [("late", page, names)], page)

    def refused_lock(self, deeds, page):
        return self.no_page(page) or self.no_room(deeds, page)

    def refused_edition(self, deeds, name):
        if not self.no_edition(deeds, name):
            return (Taken, name)
        versions = self.versions(deeds)
        return (NotLocked, versions.index(0) + 1) if 0 in versions else None

    def refused_run(self, deeds, _press, name, sheet, pulled, spoiled):
        if self.no_edition(deeds, name):
            return self.no_edition(deeds, name)
        if not 0 <= sheet < self.pages // 4:
            return (NoPlace, sheet, self.pages // 4)
        return (TooMany, spoiled, pulled) if spoiled > pulled else None

    def refused_want(self, deeds, _town, _seller, name, _copies):
        return self.no_edition(deeds, name)

    # Entries.

    def entered(self, hour, deed):
        """The entries with one more, and its number."""
        number = len(self.deeds(hour))
        return self.entries[:number] + [(hour, deed)] + self.entries[number:], number

    def first_refused(self, entries):
        """The first entry that is refused, (number, refusal), None where none is."""
        deeds = [deed for _hour, deed in entries]
        for number, deed in enumerate(deeds):
            met = self.refused(deeds[:number], deed)
            if met:
                return number, met
        return None

    # Sheets and copies.

    def kind(self, deeds, name, sheet):
        versions = self.editions(deeds)[name]
        return (sheet, tuple(versions[page - 1] for page in sheet_pages(self.pages, sheet)))

    def sheets(self, deeds):
        """All pulled sheets, a list of (kind, good or not), one by one."""
        told = []
        for deed in deeds:
            if deed[0] == "run":
                kind = self.kind(deeds, deed[2], deed[3])
                told += [(kind, number >= deed[5]) for number in range(deed[4])]
        return told

    def good(self, deeds):
        pulled = self.sheets(deeds)
        return {kind: pulled.count((kind, True)) for kind, _good in pulled}

    def wants(self, deeds):
        """The wants above 0, by (edition, town, seller), rising."""
        last = {(deed[3], deed[1], deed[2]): deed[4] for deed in deeds if deed[0] == "want"}
        return [(want, last[want]) for want in sorted(last) if last[want]]

    def dealt(self, deeds):
        """Copies gathered one by one."""
        good = self.good(deeds)
        told = []
        for want, copies in self.wants(deeds):
            kinds = [self.kind(deeds, want[0], sheet) for sheet in range(self.pages // 4)]
            many = 0
            while many < copies and all(good.get(kind, 0) > 0 for kind in kinds):
                for kind in kinds:
                    good[kind] -= 1
                many += 1
            told.append((*want, many))
        return told

    def lacking(self, deeds):
        asked = {}
        for want, copies in self.wants(deeds):
            for sheet in range(self.pages // 4):
                kind = self.kind(deeds, want[0], sheet)
                asked[kind] = asked.get(kind, 0) + copies
        good = self.good(deeds)
        return sorted((kind, many - good.get(kind, 0)) for kind, many in asked.items() if many > good.get(kind, 0))

    def white(self, deeds):
        pulled = self.sheets(deeds)
        copies = sum(row[3] for row in self.dealt(deeds)) * (self.pages // 4)
        spoiled = sum(not good for _kind, good in pulled)
        return (len(pulled), copies, spoiled, len(pulled) - copies - spoiled)

    def bill(self, deeds, name, rate):
        """The bill of a booked advertisement, None where no copies are gathered."""
        ad = next(ad for ad in self.ads(deeds) if ad[1] == name)
        dealt = self.dealt(deeds)
        if not sum(row[3] for row in dealt):
            return None
        versions = self.editions(deeds)
        bearing = 0
        for edition, _town, _seller, copies in dealt:
            plate = self.plate(deeds, ad[2], versions[edition][ad[2] - 1])
            if name in [place[0] for place in plate.places()]:
                bearing += copies
        rows = len(ad_block(self.form, (name, ad[3], ad[4])))
        return rate * ad[3] * rows * bearing // sum(row[3] for row in dealt)
