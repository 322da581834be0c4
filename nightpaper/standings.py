"""How a night stands behind some of its entries, and how each deed changes that."""

from nightpaper.ads import free_rows
from nightpaper.columns import piece_rows
from nightpaper.errors import NoPlace, NotLocked, Taken, TooMany, Twice, Unknown
from nightpaper.latenews import chosen, column_spare
from nightpaper.papers import Orders, ask_page
from nightpaper.pieces import Piece
from nightpaper.sheets import kinds_of, sheet_pages


class Standing:
    """What the deeds of a night have come to."""

    def __init__(self, paper):
        self.paper = paper
        # From names: pieces, and how many rows of heading and of body each has; advertisements, (page, span, words)
        # each, in the order in which they were booked.
        self.pieces = {}
        self.highs = {}
        self.booked = {}
        # From (page, column): a tuple of names; from pages: a name, and a tuple of the orders of each version.
        self.filled = {}
        self.late_on = {}
        self.plates = {}
        # From names: tuples of versions; from kinds: (pulled, spoiled); from (edition, town, seller): copies.
        self.made = {}
        self.printed = {}
        self.wanted = {}

    def copied(self):
        """Another one that stands alike; what its dicts hold is never changed, so these alone are new."""
        other = Standing(self.paper)
        other.pieces = {name: self.pieces[name] for name in self.pieces}
        other.highs = {name: self.highs[name] for name in self.highs}
        other.booked = {name: self.booked[name] for name in self.booked}
        other.filled = {place: self.filled[place] for place in self.filled}
        other.late_on = {page: self.late_on[page] for page in self.late_on}
        other.plates = {page: self.plates[page] for page in self.plates}
        other.made = {name: self.made[name] for name in self.made}
        other.printed = {kind: self.printed[kind] for kind in self.printed}
        other.wanted = {want: self.wanted[want] for want in self.wanted}
        return other

    def ads_on(self, page):
        """The advertisements that are booked for a page."""
        return [(name, span, words) for name, (other, span, words) in self.booked.items() if other == page]

    def columns_on(self, page):
        """The names in each column of a page."""
        return [self.filled.get((page, column), ()) for column in range(self.paper.form[0])]

    def orders(self, page):
        """The orders of a page as it stands."""
        columns = [[self.pieces[name] for name in names] for names in self.columns_on(page)]
        late = self.pieces[self.late_on[page]] if page in self.late_on else None
        return Orders(self.ads_on(page), columns, late)

    def needed_rows(self, name):
        """How many rows of a piece must stand."""
        head, body = self.highs[name]
        return head + min(self.pieces[name].least, body)

    def ask_room(self, page):
        """NoRoom where a page has a late piece and no room for it; reckoned, for laying the page takes its time."""
        if page not in self.late_on:
            return
        free = free_rows(self.paper.form, self.ads_on(page), self.paper.keep)
        asked = [
            [(self.pieces[name].rank, self.needed_rows(name)) for name in names] for names in self.columns_on(page)
        ]
        spared = [column_spare(some, rows, self.paper.stay) for some, rows in zip(asked, free)]
        head, body = self.highs[self.late_on[page]]
        chosen(spared, head, body)

    def in_columns_but(self, place):
        """The names in all columns but the one of this (page, column), those that leave by want of room among them."""
        return [name for other in self.filled if other != place for name in self.filled[other]]

    def late_but(self, page):
        """The names that are late on all pages but this one."""
        return [self.late_on[other] for other in self.late_on if other != page]

    def last_versions(self):
        """How many versions each page has, a tuple."""
        return tuple([len(self.plates.get(page, ())) for page in range(1, self.paper.pages + 1)])


def ask_pieces(standing, names):
    """Unknown of the first name that is no piece's."""
    for name in names:
        if name not in standing.pieces:
            raise Unknown(name)


def ask_edition(standing, name):
    """Unknown of a name that is no edition's."""
    if name not in standing.made:
        raise Unknown(name)


def take_piece(standing, name, heads, body, least, rank):
    """A piece comes; NoCopy, NoFit."""
    piece = Piece(name, heads, body, least, rank)
    head_set, body_set = piece_rows(piece, standing.paper.form[1])
    standing.pieces[name] = piece
    standing.highs[name] = (len(head_set), len(body_set))


def book_ad(standing, name, page, span, words):
    """An advertisement is booked for a page; Taken, NoPlace."""
    columns = standing.paper.form[0]
    if name in standing.booked:
        raise Taken(name)
    ask_page(standing.paper, page)
    if span > columns:
        raise NoPlace(span, columns)
    standing.booked[name] = (page, span, words)


def unbook_ad(standing, name):
    """An advertisement is booked no more; Unknown."""
    if name not in standing.booked:
        raise Unknown(name)
    del standing.booked[name]


def fill_column(standing, page, column, names):
    """A column has these pieces from now on; NoPlace, Unknown, Twice."""
    columns = standing.paper.form[0]
    ask_page(standing.paper, page)
    if not 0 <= column < columns:
        raise NoPlace(column, columns)
    ask_pieces(standing, names)
    elsewhere = standing.in_columns_but((page, column)) + standing.late_but(None)
    for at, name in enumerate(names):
        if name in names[:at] or name in elsewhere:
            raise Twice(name)
    standing.filled[(page, column)] = names


def set_late(standing, page, names):
    """A page has this late piece from now on, or none; NoPlace, Unknown, Twice, NoRoom."""
    ask_page(standing.paper, page)
    ask_pieces(standing, names)
    if not names:
        standing.late_on.pop(page, None)
        return
    name = names[0]
    if name in standing.in_columns_but(None) or name in standing.late_but(page):
        raise Twice(name)
    standing.late_on[page] = name
    standing.ask_room(page)


def lock_page(standing, page):
    """The page as it stands is its next version; NoPlace, NoRoom."""
    ask_page(standing.paper, page)
    standing.ask_room(page)
    standing.plates[page] = standing.plates.get(page, ()) + (standing.orders(page),)


def make_edition(standing, name):
    """An edition is made of the last version of each page; Taken, NotLocked."""
    if name in standing.made:
        raise Taken(name)
    versions = standing.last_versions()
    for at, version in enumerate(versions):
        if version == 0:
            raise NotLocked(at + 1)
    standing.made[name] = versions


def run_press(standing, press, name, sheet, pulled, spoiled):
    """A press pulled sheets of an edition's kind, some of them spoiled; Unknown, NoPlace, TooMany."""
    ask_edition(standing, name)
    # This refuses what is no sheet's number.
    sheet_pages(standing.paper.pages, sheet)
    if spoiled > pulled:
        raise TooMany(spoiled, pulled)
    kind = kinds_of(standing.made[name])[sheet]
    pulled_ahead, spoiled_ahead = standing.printed.get(kind, (0, 0))
    standing.printed[kind] = (pulled_ahead + pulled, spoiled_ahead + spoiled)


def want_copies(standing, town, seller, name, copies):
    """A seller of a town wants copies of an edition; Unknown."""
    ask_edition(standing, name)
    standing.wanted[(name, town, seller)] = copies


DOINGS = {
    "piece": take_piece,
    "book": book_ad,
    "unbook": unbook_ad,
    "fill": fill_column,
    "late": set_late,
    "lock": lock_page,
    "edition": make_edition,
    "run": run_press,
    "want": want_copies,
}


def done(standing, deed):
    """How a night stands behind one deed more; refused as the deed is."""
    # A copy is changed, so what is refused halfway changes nothing.
    other = standing.copied()
    doing = DOINGS[deed[0]]
    parts = deed[1:]
    doing(other, *parts)
    return other
