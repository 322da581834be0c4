"""Whole numbers, names, hours and money."""

from nightpaper.errors import NoText

FIGURES = "0123456789"
POUND_FIGURES = 40
NUMBER_FIGURES = 10


def is_whole(thing):
    """Whether anything is a whole number; Python counts the truths as ints, so they are asked for too."""
    return isinstance(thing, int) and not isinstance(thing, bool)


def is_name(thing):
    """Whether anything is a name: one to eight small letters."""
    if not isinstance(thing, str) or not 1 <= len(thing) <= 8:
        return False
    return all(["a" <= sign <= "z" for sign in thing])


def is_hour(thing):
    """Whether anything is an hour: a whole number from 0 to 23."""
    return is_whole(thing) and 0 <= thing <= 23


def is_figures(text, least, most):
    """Whether a text is of least to most figures and nothing else."""
    return least <= len(text) <= most and all([sign in FIGURES for sign in text])


def number_text(number):
    """All figures of a whole number from 0 on; taken by parts, for Python itself doesn't write very many at once."""
    parts = []
    while number >= 10 ** 64:
        number, part = divmod(number, 10 ** 64)
        parts.append(f"{part:064d}")
    parts.append(f"{number}")
    return "".join(parts[::-1])


def number_by(text):
    """The whole number of its figures, at most ten, no 0 ahead of others; NoText of any other text."""
    if not is_figures(text, 1, NUMBER_FIGURES) or (text[0] == "0" and text != "0"):
        raise NoText(0)
    return int(text)


def money_text(pence):
    """Pence written by pounds, shillings and pence."""
    ahead = "-" if pence < 0 else ""
    whole_shillings, pennies = divmod(abs(pence), 12)
    pounds, shillings = divmod(whole_shillings, 20)
    return f"{ahead}{pounds}-{shillings:02d}-{pennies:02d}"


def sum_by(parts):
    """The pence of written pounds, shillings and pence; None where they are not so many, or not of such figures."""
    if len(parts) != 3:
        return None
    pounds, shillings, pennies = parts
    if not is_figures(pounds, 1, POUND_FIGURES):
        return None
    if not is_figures(shillings, 2, 2) or not is_figures(pennies, 2, 2):
        return None
    return (int(pounds) * 20 + int(shillings)) * 12 + int(pennies)


def money_by(text):
    """The pence of written money; NoText of all that money_text would not write."""
    if not isinstance(text, str):
        raise NoText(0)
    below = text.startswith("-")
    pence = sum_by(text.removeprefix("-").split("-"))
    if pence is None:
        raise NoText(0)
    if below:
        pence = -pence
    # Writing it again finds noughts ahead, too many shillings or pence, and a "-" ahead of nothing.
    if money_text(pence) != text:
        raise NoText(0)
    return pence
