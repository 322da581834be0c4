"""Pages: columns of pieces, and advertisements over what would be there."""

from nightpaper.ads import BETWEEN, free_rows, laid_ads, places_of, span_wide
from nightpaper.blocks import rows_to
from nightpaper.columns import column_of
from nightpaper.errors import Unlike
from nightpaper.marks import mark_of, mark_text


class Page:
    """The rows of a page, and what stands where in them."""

    def __init__(self, number, rows, laid, missed, columns):
        self.number = number
        self.rows = tuple(rows)
        self.ad_places = tuple(places_of(laid))
        self.ads_missed = tuple(missed)
        self.column_stands = tuple([tuple(stands) for block, stands, gone in columns])
        self.column_gone = tuple([tuple(gone) for block, stands, gone in columns])

    def lines(self):
        """The rows, a new list."""
        return list(self.rows)

    def places(self):
        """Where the advertisements stand."""
        return list(self.ad_places)

    def missed(self):
        """The names of the missed advertisements."""
        return list(self.ads_missed)

    def stands(self):
        """What stands in each column."""
        return [list(column) for column in self.column_stands]

    def gone(self):
        """The names of the pieces that left each column."""
        return [list(column) for column in self.column_gone]

    def mark(self):
        """The mark of the rows."""
        return mark_of(self.lines())

    def __eq__(self, other):
        return isinstance(other, Page) and self.number == other.number and self.rows == other.rows

    def __len__(self):
        return len(self.rows)

    def __str__(self):
        return "\n".join(self.rows)

    def __repr__(self):
        return f"Page({self.number}, {mark_text(self.mark())})"


def ask_columns(form, columns):
    """Unlike where there are not as many columns of pieces as the form has."""
    if len(columns) != form[0]:
        raise Unlike(len(columns), form[0])


def title_row(title, number, wide):
    """The row of the title and, at its other end, the page's number."""
    behind = f"page {number}"
    return title.ljust(wide - len(behind)) + behind


def painted(rows, block, row, at):
    """Rows with a block over what is there, from a row and a sign on."""
    over = list(rows)
    for number, line in enumerate(block.lines()):
        under = over[row + number]
        over[row + number] = under[:at] + line + under[at + block.wide:]
    return over


def deep_rows(form, laid, columns):
    """The rows of columns, each as column_of tells it, with advertisements over them."""
    wide, deep = form[1], form[2]
    sides = [rows_to(block, deep) for block, stands, gone in columns]
    rows = [BETWEEN.join([side[row] for side in sides]) for row in range(deep)]
    for name, column, row, block in laid:
        rows = painted(rows, block, row, column * (wide + len(BETWEEN)))
    return rows


def made_page(form, title, number, ads, columns, keep):
    """The page of columns that are already set, each as column_of tells it."""
    laid, missed, tops = laid_ads(form, ads, keep)
    wide = span_wide(form[1], form[0])
    rows = [title_row(title, number, wide), "=" * wide, *deep_rows(form, laid, columns)]
    return Page(number, rows, laid, missed, columns)


def page_of(form, title, number, ads, columns, keep=4):
    """The page of a form; Unlike where it has not as many columns, NoFit of a piece of whose heads none fits."""
    ask_columns(form, columns)
    free = free_rows(form, ads, keep)
    told = [column_of(pieces, form[1], rows) for pieces, rows in zip(columns, free)]
    return made_page(form, title, number, ads, told, keep)
