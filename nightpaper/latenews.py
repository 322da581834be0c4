"""Late news: in as few columns as can be, above what stands there."""

from nightpaper.ads import free_rows
from nightpaper.blocks import Block
from nightpaper.columns import column_of, needed, piece_rows
from nightpaper.errors import NoRoom
from nightpaper.pages import ask_columns, made_page


def column_spare(asked, free, stay):
    """How many rows of its free ones a column can spare, whose pieces ask (rank, needed rows) each."""
    return max(0, free - sum([rows + 1 for rank, rows in asked if rank <= stay]))


def spare(form, ads, columns, stay=5, keep=4):
    """How many rows each column can spare; refused as page_of is."""
    ask_columns(form, columns)
    free = free_rows(form, ads, keep)
    # The pieces that need not stay are asked too: of each it must be told that one of its heads fits.
    asked = [[(piece.rank, needed(piece, form[1])) for piece in pieces] for pieces in columns]
    return [column_spare(some, rows, stay) for some, rows in zip(asked, free)]


def choices(many):
    """All choices among so many columns, those of fewer columns first, then as tuples are ordered."""
    found = [()]
    for column in range(many):
        found = found + [choice + (column,) for choice in found]
    return sorted(found, key=lambda choice: (len(choice), choice))


def taken_rows(spared, choice, rows):
    """How many rows each column of a choice takes, as far as there are rows left."""
    taken = []
    for column in choice:
        taken.append(min(spared[column], rows))
        rows -= taken[-1]
    return taken


def chosen(spared, head, body):
    """The columns that take a late piece of so many rows of heading and of body, and how many each takes; NoRoom."""
    rows = head + body
    first = head + min(1, body)
    for choice in choices(len(spared)):
        taken = taken_rows(spared, choice, rows)
        if sum(taken) == rows and min(taken) > 0 and taken[0] >= first:
            return choice, taken
    raise NoRoom(max(0, rows - sum(spared)))


def late_column(name, late, heading, pieces, wide, free):
    """A column with rows of late news, so many of them its heading's, above the pieces; told as column_of tells one."""
    block, stands, gone = column_of(pieces, wide, max(0, free - len(late) - 1))
    rows = list(late)
    if stands:
        rows = [*late, "-" * wide, *block.lines()]
    first = (name, 0, heading, len(late) - heading)
    below = [(other, row + len(late) + 1, head, body) for other, row, head, body in stands]
    return Block(rows, wide), [first, *below], gone


def late_in(form, title, number, ads, columns, piece, stay=5, keep=4):
    """The numbers of the columns that late news stands in, and the page; Unlike, NoFit or NoRoom."""
    ask_columns(form, columns)
    wide = form[1]
    head, body = piece_rows(piece, wide)
    late = head + body
    spared = spare(form, ads, columns, stay, keep)
    choice, taken = chosen(spared, len(head), len(body))
    free = free_rows(form, ads, keep)
    told = [column_of(pieces, wide, rows) for pieces, rows in zip(columns, free)]
    at = 0
    for column, share in zip(choice, taken):
        # The first column has taken all of the heading.
        heading = len(head) if at == 0 else 0
        told[column] = late_column(piece.name, late[at:at + share], heading, columns[column], wide, free[column])
        at += share
    return choice, made_page(form, title, number, ads, told, keep)
