"""Advertisements and where they stand."""

from nightpaper.blocks import Block, framed
from nightpaper.setting import set_rows

BETWEEN = " | "
FRAME_SIGNS = 4


def span_wide(wide, span):
    """How wide so many columns are, with what stands between them."""
    return span * wide + (span - 1) * len(BETWEEN)


def ad_block(form, ad):
    """The block of an advertisement: its words, framed."""
    inner = span_wide(form[1], ad[1]) - FRAME_SIGNS
    return framed(Block(set_rows(ad[2], inner, False, 0), inner))


def lowest(tops, span):
    """The column where an advertisement lies lowest, and the top that it lies on; None where it may begin nowhere."""
    best = None
    for column in range(len(tops) - span + 1):
        top = max(tops[column:column + span])
        # Of like tops the later column, the one more to the right, is taken.
        if best is None or top <= best[1]:
            best = (column, top)
    return best


def laid_ads(form, ads, keep):
    """The ads that lie somewhere, each (name, column, row, block), the missed ones' names, and the columns' tops."""
    deep = form[2]
    tops = [0] * form[0]
    laid = []
    missed = []
    for ad in ads:
        name, span = ad[0], ad[1]
        block = ad_block(form, ad)
        found = lowest(tops, span)
        if found is None or found[1] + len(block) + keep > deep:
            missed.append(name)
            continue
        column = found[0]
        top = found[1] + len(block)
        tops[column:column + span] = [top] * span
        laid.append((name, column, deep - top, block))
    return laid, missed, tops


def free_rows(form, ads, keep):
    """How many rows of each column are above its top."""
    laid, missed, tops = laid_ads(form, ads, keep)
    return [form[2] - top for top in tops]


def places_of(laid):
    """The places of advertisements that lie somewhere."""
    return [(name, column, row, len(block)) for name, column, row, block in laid]


def stand_ads(form, ads, keep=4):
    """Where the advertisements stand, and the names of the missed ones."""
    laid, missed, tops = laid_ads(form, ads, keep)
    return places_of(laid), missed
