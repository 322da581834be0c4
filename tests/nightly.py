"""What the tests of nights share: nights of deeds, and all that is told of a night."""

from nightpaper.errors import NoCopies, NoRoom
from nightpaper.nights import Night

FORM = (2, 16, 12)
LOCKS = [("lock", page) for page in (1, 2, 3, 4)]


def piece(name, body="a\nb\nc", least=1, rank=5, heads=None):
    """The deed by which a piece comes, its body of a few rows."""
    return ("piece", name, (name,) if heads is None else heads, body, least, rank)


def rows(many, sign="a"):
    """A body of so many rows."""
    return "\n".join([sign] * many)


def night_of(*deeds, form=FORM, hour=0, **made):
    """A night with deeds entered at one hour."""
    night = Night("times", form, **made)
    for deed in deeds:
        night.enter(hour, deed)
    return night


def page_told(night, hour, number):
    """All that a page as it stands tells, or that it has no room."""
    try:
        page = night.page(hour, number)
    except NoRoom as met:
        return ("no room", met.lack)
    return plate_told(page)


def plate_told(page):
    return (str(page), page.number, page.mark(), page.places(), page.missed(), page.stands(), page.gone())


def bill_told(night, hour, name):
    try:
        return night.bill(hour, name), night.bill(hour, name, 1000)
    except NoCopies:
        return "no copies"


def hour_told(night, hour, pages):
    """All that is told of a night at an hour."""
    versions = night.versions(hour)
    editions = night.editions(hour)
    deeds = [deed for entered, deed in night.entries() if entered <= hour]
    booked = []
    for deed in deeds:
        if deed[0] == "book":
            booked.append(deed[1])
        if deed[0] == "unbook":
            booked.remove(deed[1])
    return (
        [page_told(night, hour, number) for number in range(1, pages + 1)],
        versions,
        [plate_told(night.plate(hour, page + 1, version + 1))
         for page in range(pages) for version in range(versions[page])],
        editions, night.good(hour), night.lacking(hour), night.dealt(hour), night.white(hour),
        {name: [str(bundle) for bundle in night.bundles(hour, name, 7)] for name in editions},
        {name: bill_told(night, hour, name) for name in booked},
    )


def all_told(night, pages=4, hours=(0, 1, 2, 3, 5, 12, 23)):
    """All that is told of a night, so that a change anywhere is seen."""
    return night.entries(), [hour_told(night, hour, pages) for hour in hours]
