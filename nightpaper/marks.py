"""The marks of lists of texts."""

from nightpaper.errors import NoText

FIRST_MARK = 40503
MARKS = 65536
SIXTEEN_FIGURES = "0123456789abcdef"


def mark_of(rows):
    """The mark of a list of texts."""
    mark = FIRST_MARK
    for row in rows:
        for sign in row + "\n":
            mark = mark * 33 + ord(sign)
            mark = (mark ^ (mark // 128)) % MARKS
    return mark


def mark_text(mark):
    """A mark written by four figures of sixteen."""
    return f"{mark:04x}"


def mark_by(text):
    """The mark of its four figures; NoText of anything else."""
    if not isinstance(text, str) or len(text) != 4:
        raise NoText(0)
    mark = 0
    for sign in text:
        if sign not in SIXTEEN_FIGURES:
            raise NoText(0)
        mark = mark * 16 + SIXTEEN_FIGURES.index(sign)
    return mark
