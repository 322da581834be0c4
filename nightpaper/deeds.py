"""What is done in a night: nine deeds, each a tuple."""

from nightpaper.errors import NoDeed, NoHour
from nightpaper.setting import words_of
from nightpaper.words import is_hour, is_name, is_whole

# The kinds of a deed's parts, behind its word.
DEED_PARTS = {
    "piece": ("name", "heads", "text", "count", "rank"),
    "book": ("name", "number", "span", "text"),
    "unbook": ("name",),
    "fill": ("number", "number", "names"),
    "late": ("number", "one name"),
    "lock": ("number",),
    "edition": ("name",),
    "run": ("name", "name", "number", "count", "count"),
    "want": ("name", "name", "name", "count"),
}

# The least and the most of a kind, None where there is no such bound: of a number, of how many a tuple has.
NUMBER_BOUNDS = {"number": (None, None), "count": (0, None), "span": (1, None), "rank": (1, 9)}
TUPLE_BOUNDS = {"heads": (1, 4), "names": (0, 8), "one name": (0, 1)}


def is_within(number, least, most):
    """Whether a whole number is within bounds, of which either may be None."""
    return (least is None or number >= least) and (most is None or number <= most)


def is_head(thing):
    """Whether anything is a heading: a text with a word, without line feeds."""
    return isinstance(thing, str) and "\n" not in thing and len(words_of(thing)) > 0


def is_tuple_part(kind, thing):
    """Whether anything is a tuple of heads or names, and of no more or fewer than its kind has."""
    if not isinstance(thing, tuple):
        return False
    least, most = TUPLE_BOUNDS[kind]
    if not is_within(len(thing), least, most):
        return False
    if kind == "heads":
        return all([is_head(one) for one in thing])
    return all([is_name(one) for one in thing])


def is_part(kind, thing):
    """Whether anything is a part of this kind."""
    if kind == "name":
        return is_name(thing)
    if kind == "text":
        return isinstance(thing, str)
    if kind in TUPLE_BOUNDS:
        return is_tuple_part(kind, thing)
    least, most = NUMBER_BOUNDS[kind]
    return is_whole(thing) and is_within(thing, least, most)


def is_deed(thing):
    """Whether anything is one of the nine deeds."""
    if not isinstance(thing, tuple) or not thing:
        return False
    # A word that is no text may be one that no dict could be asked for.
    if not isinstance(thing[0], str) or thing[0] not in DEED_PARTS:
        return False
    kinds = DEED_PARTS[thing[0]]
    if len(thing) != len(kinds) + 1:
        return False
    return all([is_part(kind, part) for kind, part in zip(kinds, thing[1:])])


def ask_entry(hour, deed):
    """NoHour of what is no hour, then NoDeed of what is no deed, of anything."""
    if not is_hour(hour):
        raise NoHour("an hour is a whole number from 0 to 23")
    if not is_deed(deed):
        raise NoDeed("this is none of the nine deeds")
