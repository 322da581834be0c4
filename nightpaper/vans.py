"""Bundles loaded, and vans filled with them."""

from nightpaper.errors import TooMany, Unknown


def coming_out(route, bundles):
    """The bundles as they come out: as the route goes, in a town as the list does; Unknown of a town not in it."""
    by_town = {town: [] for town in route}
    for bundle in bundles:
        if bundle.town not in by_town:
            raise Unknown(bundle.town)
        by_town[bundle.town].append(bundle)
    return [bundle for town in by_town for bundle in by_town[town]]


def loaded(route, bundles):
    """The bundles in the order in which they are put in: what is put in first comes out last."""
    return coming_out(route, bundles)[::-1]


def vans(route, bundles, most=1000):
    """The bundles of each van, as loaded; TooMany of the first bundle that is more than most alone."""
    turns = coming_out(route, bundles)
    for bundle in turns:
        if bundle.copies > most:
            raise TooMany(bundle.copies, most)
    filled = []
    copies = 0
    for bundle in turns:
        if filled and copies + bundle.copies <= most:
            filled[-1].append(bundle)
            copies += bundle.copies
        else:
            filled.append([bundle])
            copies = bundle.copies
    return [van[::-1] for van in filled]
