"""The paper of a night, and its pages laid by orders."""

from nightpaper.errors import NoPlace
from nightpaper.latenews import late_in
from nightpaper.pages import page_of


class Paper:
    """What a night is made of: its title, its pages' form and number, and what is kept free and stays on them."""

    def __init__(self, title, form, pages, keep, stay):
        self.title = title
        self.form = form
        self.pages = pages
        self.keep = keep
        self.stay = stay


class Orders:
    """What a page is laid by: its advertisements, its columns of pieces, and its late piece, None where there is none.

    Nothing of it is ever changed, so plates that were locked may keep it.
    """

    def __init__(self, ads, columns, late):
        self.ads = ads
        self.columns = columns
        self.late = late


def ask_page(paper, number):
    """NoPlace of a page that is none of the paper's."""
    if not 1 <= number <= paper.pages:
        raise NoPlace(number, paper.pages)


def laid_page(paper, number, orders):
    """The page that orders lay; NoRoom of its late piece."""
    if orders.late is None:
        return page_of(paper.form, paper.title, number, orders.ads, orders.columns, paper.keep)
    columns, page = late_in(
        paper.form, paper.title, number, orders.ads, orders.columns, orders.late, paper.stay, paper.keep,
    )
    return page
