"""What sheets and copies come to, as a night stands."""

from nightpaper.ads import ad_block, stand_ads
from nightpaper.bundles import bundled
from nightpaper.errors import NoCopies, Unknown
from nightpaper.sheets import SHEET_PAGES, gathered, lacks, rests
from nightpaper.standings import ask_edition


def good_sheets(standing):
    """The good sheets of each kind of which at least one was pulled, a dict."""
    return {kind: pulled - spoiled for kind, (pulled, spoiled) in standing.printed.items() if pulled > 0}


def wants_in_turn(standing):
    """All wants above 0, (edition, town, seller) each, in the order in which they are gathered."""
    return [want for want in sorted(standing.wanted) if standing.wanted[want] > 0]


def copies_asked(standing):
    """All wants above 0, (edition, copies) each, in the order in which they are gathered."""
    return [(want[0], standing.wanted[want]) for want in wants_in_turn(standing)]


def lacking_sheets(standing):
    """What lacks for all wants together."""
    return lacks(standing.made, good_sheets(standing), copies_asked(standing))


def dealt_copies(standing):
    """All wants above 0, with how many copies of each can be gathered."""
    told = gathered(standing.made, good_sheets(standing), copies_asked(standing))
    return [
        (edition, town, seller, copies)
        for (edition, town, seller), (name, copies) in zip(wants_in_turn(standing), told)
    ]


def white_sheets(standing):
    """How many sheets were pulled, are in copies, are spoiled, are rests."""
    copies = sum([row[3] for row in dealt_copies(standing)])
    left = rests(standing.made, good_sheets(standing), copies_asked(standing))
    return (
        sum([pulled for pulled, spoiled in standing.printed.values()]),
        copies * (standing.paper.pages // SHEET_PAGES),
        sum([spoiled for pulled, spoiled in standing.printed.values()]),
        sum([many for kind, many in left]),
    )


def edition_bundles(standing, name, size):
    """The bundles of an edition's wants as gathered; Unknown."""
    ask_edition(standing, name)
    wants = [
        (town, seller, copies) for edition, town, seller, copies in dealt_copies(standing) if edition == name
    ]
    return bundled(wants, size)


def bears_ad(standing, edition, page, ad):
    """Whether an advertisement stands on an edition's plate of a page."""
    orders = standing.plates[page][standing.made[edition][page - 1] - 1]
    places, missed = stand_ads(standing.paper.form, orders.ads, standing.paper.keep)
    return ad in [name for name, column, row, high in places]


def ad_bill(standing, ad, rate):
    """What an advertisement costs, by the copies that it is in among all that are gathered; Unknown, NoCopies."""
    if ad not in standing.booked:
        raise Unknown(ad)
    page, span, words = standing.booked[ad]
    dealt = dealt_copies(standing)
    copies = sum([row[3] for row in dealt])
    if copies == 0:
        raise NoCopies()
    bearing = [edition for edition in standing.made if bears_ad(standing, edition, page, ad)]
    shown = sum([row[3] for row in dealt if row[0] in bearing])
    rows = len(ad_block(standing.paper.form, (ad, span, words)))
    return rate * span * rows * shown // copies
