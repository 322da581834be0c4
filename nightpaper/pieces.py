"""Pieces: what stands in the columns."""

from nightpaper.markup import plain
from nightpaper.setting import words_of


def all_words(text):
    """The words of all paragraphs of a text, none of them parted."""
    return [word for paragraph in text.split("\n") for word in words_of(paragraph)]


class Piece:
    """Headings, of which one is taken, and a body of marked copy."""

    def __init__(self, name, heads, body, least=2, rank=5, most=2, spaced=False):
        # What is no marked copy is refused here, not only where the piece is set.
        plain(body)
        self.name = name
        self.heads = tuple(heads)
        self.body = body
        self.least = least
        self.rank = rank
        self.most = most
        self.spaced = spaced

    def __eq__(self, other):
        if not isinstance(other, Piece):
            return False
        if self.name != other.name or self.heads != other.heads or self.body != other.body:
            return False
        if self.least != other.least or self.rank != other.rank:
            return False
        return self.most == other.most and self.spaced == other.spaced

    def __len__(self):
        return len(all_words(plain(self.body)))

    def __str__(self):
        return str(self.heads[0])
