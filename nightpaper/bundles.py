"""Bundles of copies for towns and their sellers."""


class Bundle:
    """Copies for a seller of a town, one of so many bundles of a want."""

    def __init__(self, town, seller, number, of, copies):
        self.town = town
        self.seller = seller
        self.number = number
        self.of = of
        self.copies = copies

    def __eq__(self, other):
        if not isinstance(other, Bundle):
            return False
        if self.town != other.town or self.seller != other.seller:
            return False
        return self.number == other.number and self.of == other.of and self.copies == other.copies

    def __len__(self):
        return len(range(self.copies))

    def __str__(self):
        return f"{self.town} {self.seller} {self.number}/{self.of} {self.copies}"

    def __repr__(self):
        return f"Bundle({self})"


def want_bundles(town, seller, copies, size):
    """The bundles of one want."""
    counts = [size] * (copies // size)
    if copies > size * len(counts):
        counts.append(copies - size * len(counts))
    return [Bundle(town, seller, at + 1, len(counts), count) for at, count in enumerate(counts)]


def bundled(wants, size=50):
    """The bundles of all wants, in the wants' order."""
    return [bundle for town, seller, copies in wants for bundle in want_bundles(town, seller, copies, size)]
