"""The refusals of the package, each with what it was made with as its fields."""

# Each message is put together only when it is asked for: a field may be a
# number of more figures than Python is willing to write.


class NightError(ValueError):
    """What most of the refusals stand under."""


class NoText(NightError):
    """A text is not written as it must be."""

    def __init__(self, row):
        self.row = row

    def __str__(self):
        return f"row {self.row} is not so written"


class NoCopy(NightError):
    """Marked copy is not written as it must be."""

    def __init__(self, at):
        self.at = at

    def __str__(self):
        return f"no marked copy goes on so behind {self.at} signs"


class NoFit(NightError):
    """A heading has no room in its rows."""

    def __init__(self, rows):
        self.rows = rows

    def __str__(self):
        if self.rows is None:
            return "a word alone is too long"
        return f"it would have {self.rows} rows"


class NoRoom(NightError):
    """Late news has no room on its page."""

    def __init__(self, lack):
        self.lack = lack

    def __str__(self):
        return f"{self.lack} rows are lacking"


class Unlike(NightError):
    """Two measures that must be alike are not."""

    def __init__(self, one, other):
        self.one = one
        self.other = other

    def __str__(self):
        return f"{self.one} beside {self.other}"


class Taken(NightError):
    """There is one of this name already."""

    def __init__(self, name):
        self.name = name

    def __str__(self):
        return f"{self.name} is taken"


class Twice(NightError):
    """A piece would stand in two places."""

    def __init__(self, name):
        self.name = name

    def __str__(self):
        return f"{self.name} would stand twice"


class NotLocked(NightError):
    """A page has no version yet."""

    def __init__(self, number):
        self.number = number

    def __str__(self):
        return f"page {self.number} is not locked"


class Hindered(NightError):
    """A later entry would be refused."""

    def __init__(self, entry, refusal):
        self.entry = entry
        self.refusal = refusal

    def __str__(self):
        return f"entry {self.entry}: {self.refusal}"


class NoDeed(NightError):
    """What is told is nothing that is done in a night."""

    def __init__(self, text):
        self.text = text

    def __str__(self):
        return f"{self.text}"


class NoHour(NightError):
    """What is told is no hour."""

    def __init__(self, text):
        self.text = text

    def __str__(self):
        return f"{self.text}"


class NoRow(NightError):
    """What is told is no row of a desk."""

    def __init__(self, text):
        self.text = text

    def __str__(self):
        return f"{self.text}"


class Unknown(KeyError):
    """There is none of this name."""

    def __init__(self, name):
        self.name = name

    def __str__(self):
        return f"no {self.name}"


class NoPlace(IndexError):
    """There is none of this number."""

    def __init__(self, number, many):
        self.number = number
        self.many = many

    def __str__(self):
        return f"{self.number} of {self.many}"


class TooMany(OverflowError):
    """More are asked than there may be."""

    def __init__(self, asked, most):
        self.asked = asked
        self.most = most

    def __str__(self):
        return f"{self.asked} above {self.most}"


class TooLate(RuntimeError):
    """Copies come back too many nights later."""

    def __init__(self, by):
        self.by = by

    def __str__(self):
        return f"too late by {self.by}"


class NoCopies(ZeroDivisionError):
    """No copies are gathered by which something could be parted."""

    def __str__(self):
        return "no copies are gathered"
