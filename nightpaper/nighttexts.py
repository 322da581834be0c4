"""Nights written as texts, and read again."""

from nightpaper.errors import NightError, NoPlace, NoText, TooMany, Unknown
from nightpaper.nights import Night
from nightpaper.words import is_name, number_by, number_text

EMPTY = "~e"
BEHIND_TILDE = {"u": "_", "s": "/", "t": "~"}

# The kinds of the words of a deed's line, behind its first one; "names" and "texts" are however many.
LINE_PARTS = {
    "piece": ("name", "number", "number", "text", "texts"),
    "book": ("name", "number", "number", "text"),
    "unbook": ("name",),
    "fill": ("number", "number", "names"),
    "late": ("number", "names"),
    "lock": ("number",),
    "edition": ("name",),
    "run": ("name", "name", "number", "number", "number"),
    "want": ("name", "name", "name", "number"),
}
ONE_OF_MANY = {"names": "name", "texts": "text"}

NIGHT_PARTS = ("name", "number", "number", "number", "number", "number", "number")
FORM_BOUNDS = ((1, 6), (16, 40), (6, 60))
PAPER_PAGES = (4, 8, 12, 16)
MOST_KEEP = 6
MOST_STAY = 9


def packed(text):
    """A text as one word."""
    if text == "":
        return EMPTY
    # The signs that stand for others go first, so that none is taken twice.
    apart = text.replace("~", "~t").replace("_", "~u").replace("/", "~s")
    return apart.replace(" ", "_").replace("\n", "/")


def unpacked(text):
    """The text that a word packs; NoText where it packs none, of anything."""
    if not isinstance(text, str) or text == "" or " " in text or "\n" in text:
        raise NoText(0)
    if text == EMPTY:
        return ""
    first, *others = text.replace("_", " ").replace("/", "\n").split("~")
    told = first
    for part in others:
        if part[:1] not in BEHIND_TILDE:
            raise NoText(0)
        told += BEHIND_TILDE[part[0]] + part[1:]
    return told


def part_by(kind, word):
    """What a word of a kind tells; NoText of a word that is none."""
    if kind == "number":
        return number_by(word)
    if kind == "text":
        return unpacked(word)
    if not is_name(word):
        raise NoText(0)
    return word


def parts_by(kinds, words):
    """What words tell, one of each kind; NoText where they are more or fewer, or one isn't so written."""
    if len(words) != len(kinds):
        raise NoText(0)
    return tuple([part_by(kind, word) for kind, word in zip(kinds, words)])


def several_by(kinds, words):
    """What words tell, one of each kind but of the last one, of which the rest are, a tuple; NoText."""
    many = len(kinds) - 1
    rest = tuple([part_by(ONE_OF_MANY[kinds[many]], word) for word in words[many:]])
    return parts_by(kinds[:many], words[:many]) + (rest,)


def deed_by(words):
    """The deed that the words of a line tell, perhaps one that is none by its bounds; NoText."""
    if not words or words[0] not in LINE_PARTS:
        raise NoText(0)
    kinds = LINE_PARTS[words[0]]
    if kinds[-1] in ONE_OF_MANY:
        parts = several_by(kinds, words[1:])
    else:
        parts = parts_by(kinds, words[1:])
    if words[0] == "piece":
        name, least, rank, body, heads = parts
        parts = (name, heads, body, least, rank)
    return (words[0],) + parts


def entry_by(words):
    """The number in an hour's place, and the deed, that the words of a line tell; NoText."""
    if not words:
        raise NoText(0)
    return number_by(words[0]), deed_by(words[1:])


def part_words(part):
    """The words that a part of a deed is written by; a name packs to itself."""
    if isinstance(part, tuple):
        return [packed(one) for one in part]
    if isinstance(part, str):
        return [packed(part)]
    return [number_text(part)]


def entry_line(entry):
    """The line of an entry."""
    hour, deed = entry
    if deed[0] == "piece":
        # Its heads are however many, so they go last.
        word, name, heads, body, least, rank = deed
        deed = (word, name, least, rank, body, heads)
    return " ".join([number_text(hour)] + [word for part in deed for word in part_words(part)])


def night_line(paper):
    """The first line of a night's text."""
    numbers = [*paper.form, paper.pages, paper.keep, paper.stay]
    return " ".join(["night", paper.title] + [number_text(number) for number in numbers])


def night_text(night):
    """A night written by lines."""
    return "\n".join([night_line(night.paper)] + [entry_line(entry) for entry in night.entries()])


def night_of_line(line):
    """The night without entries that the first line tells; NoText."""
    words = line.split(" ")
    if words[0] != "night":
        raise NoText(0)
    title, columns, wide, deep, pages, keep, stay = parts_by(NIGHT_PARTS, words[1:])
    form = (columns, wide, deep)
    if not all([least <= number <= most for number, (least, most) in zip(form, FORM_BOUNDS)]):
        raise NoText(0)
    if pages not in PAPER_PAGES or keep > MOST_KEEP or stay > MOST_STAY:
        raise NoText(0)
    return Night(title, form, pages, keep, stay)


def enter_line(night, row, line):
    """The entry of a line is entered behind all others; NoText of its row."""
    try:
        hour, deed = entry_by(line.split(" "))
        if hour < last_hour(night):
            raise NoText(row)
        night.enter(hour, deed)
    except (NightError, Unknown, NoPlace, TooMany):
        raise NoText(row) from None


def last_hour(night):
    """The hour of a night's last entry, 0 where there is none."""
    return max([hour for hour, deed in night.entries()], default=0)


def night_by(text):
    """The night of a text; NoText of the first line that isn't so written or is refused, of anything."""
    if not isinstance(text, str):
        raise NoText(0)
    lines = text.split("\n")
    night = night_of_line(lines[0])
    for row, line in enumerate(lines):
        if row > 0:
            enter_line(night, row, line)
    return night


def made_again(text, number, version):
    """A plate made again from a night's text; NoText, NoPlace."""
    night = night_by(text)
    return night.plate(last_hour(night), number, version)
