"""Headings set to rows."""

from nightpaper.errors import NoFit
from nightpaper.setting import filled_rows, words_of


def even_rows(words, fewest):
    """The words of each row of the one way that is taken among those of the fewest rows."""
    # Within one length, filling each row in turn makes the first row longest, then the second, and so on;
    # so the shortest length by which this comes out with the fewest rows tells the way.
    length = max([len(word) for word in words])
    rows = filled_rows(words, length)
    while len(rows) > fewest:
        length += 1
        rows = filled_rows(words, length)
    return rows


def head_row(words, wide, spaced):
    """One row of a heading, in the middle."""
    row = " ".join(words)
    if spaced:
        row = " ".join(list(row))
    ahead = (wide - len(row)) // 2
    return (" " * ahead + row).ljust(wide)


def head_rows(text, wide, most=2, spaced=False):
    """The rows of a heading; NoFit where they would be too many, or a word is too long."""
    words = words_of(text)
    # Of n signs, spaced ones take 2 n - 1.
    room = (wide + 1) // 2 if spaced else wide
    if max([len(word) for word in words]) > room:
        raise NoFit(None)
    fewest = len(filled_rows(words, room))
    if fewest > most:
        raise NoFit(fewest)
    return [head_row(row, wide, spaced) for row in even_rows(words, fewest)]


def first_head(texts, wide, most=2, spaced=False):
    """The number and the rows of the first heading that fits; NoFit, with the least number of rows, where none does."""
    told = []
    for number, text in enumerate(texts):
        try:
            return number, head_rows(text, wide, most, spaced)
        except NoFit as refusal:
            if refusal.rows is not None:
                told.append(refusal.rows)
    raise NoFit(min(told, default=None))
