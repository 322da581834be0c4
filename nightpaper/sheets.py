"""Sheets of a paper, editions, and copies gathered of sheets."""

from nightpaper.errors import NoPlace, Unknown

SHEET_PAGES = 4


def sheet_pages(pages, sheet):
    """The four pages of a sheet of a paper of so many pages; NoPlace of what is no sheet's number."""
    many = pages // SHEET_PAGES
    if not 0 <= sheet < many:
        raise NoPlace(sheet, many)
    return (pages - 2 * sheet, 2 * sheet + 1, 2 * sheet + 2, pages - 2 * sheet - 1)


def kinds_of(edition):
    """The kind of each sheet of an edition."""
    kinds = []
    for sheet in range(len(edition) // SHEET_PAGES):
        versions = tuple([edition[page - 1] for page in sheet_pages(len(edition), sheet)])
        kinds.append((sheet, versions))
    return kinds


def kinds_asked(editions, wants):
    """For each want its edition's kinds; Unknown of the first want whose edition isn't there."""
    asked = []
    for name, copies in wants:
        if name not in editions:
            raise Unknown(name)
        asked.append(kinds_of(editions[name]))
    return asked


def above_nought(sheets):
    """A rising list of (kind, many) of those kinds of which there are any."""
    return [(kind, sheets[kind]) for kind in sorted(sheets) if sheets[kind] > 0]


def lacks(editions, good, wants):
    """What lacks for all wants together."""
    lacking = {}
    for kinds, (name, copies) in zip(kinds_asked(editions, wants), wants):
        for kind in kinds:
            lacking[kind] = lacking.get(kind, -good.get(kind, 0)) + copies
    return above_nought(lacking)


def gathering(editions, good, wants):
    """How many copies of each want can be gathered in their order, and the good sheets then left, a dict."""
    left = {kind: good[kind] for kind in good}
    told = []
    for kinds, (name, copies) in zip(kinds_asked(editions, wants), wants):
        many = min([copies] + [left.get(kind, 0) for kind in kinds])
        for kind in kinds:
            left[kind] = left.get(kind, 0) - many
        told.append((name, many))
    return told, left


def gathered(editions, good, wants):
    """How many copies of each want can be gathered, where they come in their order."""
    told, left = gathering(editions, good, wants)
    return told


def rests(editions, good, wants):
    """What is left of all good sheets when all copies are gathered."""
    told, left = gathering(editions, good, wants)
    return above_nought(left)
