"""Blocks of rows of one width."""

from nightpaper.errors import Unlike


class Block:
    """Rows of one width."""

    def __init__(self, rows, wide):
        for row in rows:
            if len(row) > wide:
                raise Unlike(len(row), wide)
        self.rows = tuple([row.ljust(wide) for row in rows])
        self.wide = wide

    def lines(self):
        """The rows, a new list."""
        return list(self.rows)

    def __eq__(self, other):
        return isinstance(other, Block) and self.rows == other.rows and self.wide == other.wide

    def __len__(self):
        return len(self.rows)

    def __str__(self):
        return "\n".join(self.rows)

    def __repr__(self):
        return f"Block({len(self.rows)} by {self.wide})"


def rows_to(block, high):
    """The rows of a block, and rows of blanks below to a height."""
    return block.lines() + [" " * block.wide] * (high - len(block))


def beside(left, right, rule=" | "):
    """Two blocks side by side, a rule between them in each row."""
    high = max(len(left), len(right))
    rows = [one + rule + other for one, other in zip(rows_to(left, high), rows_to(right, high))]
    return Block(rows, left.wide + len(rule) + right.wide)


def above(upper, lower):
    """One block on another one; Unlike where their widths are."""
    if upper.wide != lower.wide:
        raise Unlike(upper.wide, lower.wide)
    return Block(upper.lines() + lower.lines(), upper.wide)


def framed(block):
    """A block in a frame."""
    edge = "+" + "-" * (block.wide + 2) + "+"
    rows = ["| " + row + " |" for row in block.lines()]
    return Block([edge, *rows, edge], block.wide + 4)
