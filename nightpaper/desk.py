"""A desk: rows are told to it, and it answers each with a text."""

from nightpaper.errors import NoRow, NoText
from nightpaper.marks import mark_text
from nightpaper.nights import Night
from nightpaper.nighttexts import entry_by, night_text, part_by
from nightpaper.words import is_hour, money_text, number_text

# The kinds of the words of a row, behind its first one.
ROW_PARTS = {
    "out": ("number",),
    "page": ("hour", "number"),
    "plate": ("hour", "number", "number"),
    "mark": ("hour", "number"),
    "gone": ("hour", "number"),
    "versions": ("hour",),
    "editions": ("hour",),
    "dealt": ("hour",),
    "white": ("hour",),
    "bundles": ("hour", "name", "size"),
    "bill": ("hour", "name", "number"),
    "night": (),
}
LAST_MAY_LACK = ("bundles", "bill")
MOST_SIZE = 1000


def row_part(kind, word):
    """What a word of a row tells; NoText of a word that is none of its kind."""
    if kind == "hour":
        hour = part_by("number", word)
        if not is_hour(hour):
            raise NoText(0)
        return hour
    if kind == "size":
        size = part_by("number", word)
        if not 1 <= size <= MOST_SIZE:
            raise NoText(0)
        return size
    return part_by(kind, word)


def asked_parts(words):
    """What the words of a row that asks, or takes out, tell behind the first one; NoText."""
    kinds = ROW_PARTS[words[0]]
    many = len(words) - 1
    least = len(kinds) - 1 if words[0] in LAST_MAY_LACK else len(kinds)
    if not least <= many <= len(kinds):
        raise NoText(0)
    return [row_part(kind, word) for kind, word in zip(kinds, words[1:])]


def joined(texts):
    """Texts parted as answers part them, or a sign that there are none."""
    return "; ".join(texts) if texts else "-"


def spoken(parts):
    """Names and numbers, parted by blanks."""
    return " ".join([part if isinstance(part, str) else number_text(part) for part in parts])


def enter_answer(night, hour, deed):
    """The answer to enter."""
    night.enter(hour, deed)
    return "ok"


def out_answer(night, entry):
    """The answer to out."""
    night.out(entry)
    return "ok"


def page_answer(night, hour, number):
    """The text of a page as it stands."""
    return str(night.page(hour, number))


def plate_answer(night, hour, number, version):
    """The text of a page as it was locked."""
    return str(night.plate(hour, number, version))


def mark_answer(night, hour, number):
    """The mark of a page as it stands."""
    return mark_text(night.page(hour, number).mark())


def gone_answer(night, hour, number):
    """The names that left the columns of a page, and those of its missed advertisements."""
    page = night.page(hour, number)
    names = [name for column in page.gone() for name in column] + page.missed()
    return " ".join(names) if names else "-"


def versions_answer(night, hour):
    """How many versions each page has."""
    return spoken(night.versions(hour))


def editions_answer(night, hour):
    """The versions of each edition, rising by names."""
    editions = night.editions(hour)
    return joined([spoken((name, *editions[name])) for name in sorted(editions)])


def dealt_answer(night, hour):
    """How many copies of each want can be gathered."""
    return joined([spoken(row) for row in night.dealt(hour)])


def white_answer(night, hour):
    """Where the sheets are."""
    return spoken(night.white(hour))


def bundles_answer(night, hour, edition, size=50):
    """The texts of an edition's bundles."""
    return joined([str(bundle) for bundle in night.bundles(hour, edition, size)])


def bill_answer(night, hour, ad, rate=3):
    """The bill of an advertisement."""
    return money_text(night.bill(hour, ad, rate))


def night_answer(night):
    """The night's text."""
    return night_text(night)


ANSWERS = {
    "enter": enter_answer,
    "out": out_answer,
    "page": page_answer,
    "plate": plate_answer,
    "mark": mark_answer,
    "gone": gone_answer,
    "versions": versions_answer,
    "editions": editions_answer,
    "dealt": dealt_answer,
    "white": white_answer,
    "bundles": bundles_answer,
    "bill": bill_answer,
    "night": night_answer,
}


def row_parts(words):
    """What the words of a row tell behind the first one; NoRow where it is none of the rows."""
    # Blanks together or at an end make an empty word, which is no first word, name, number or packed text.
    try:
        if words[0] == "enter":
            return list(entry_by(words[1:]))
        if words[0] in ROW_PARTS:
            return asked_parts(words)
    except NoText:
        raise NoRow("its words aren't such a row's") from None
    raise NoRow("no row has this first word")


class Desk:
    """A night of its own, told and asked by rows."""

    def __init__(self, night):
        paper = night.paper
        self.night = Night(paper.title, paper.form, paper.pages, paper.keep, paper.stay)
        for hour, deed in night.entries():
            self.night.enter(hour, deed)

    def say(self, row):
        """The answer to a row; NoRow, then what the stages refuse."""
        if not isinstance(row, str):
            raise NoRow("a row is a text")
        words = row.split(" ")
        parts = row_parts(words)
        answer = ANSWERS[words[0]]
        return answer(self.night, *parts)
