"""Which editions stand for views, and the paper that is told of both."""

from midstride.errors import BadBook, BadCall
from midstride.papers import Barred, Let
from midstride.steps import is_book
from midstride.views import is_view, reasons_against, shelf_of, standing


def need_editions(editions):
    """Refuse what is no list of books, and one without any."""
    if not isinstance(editions, list) or not editions or not all(is_book(book) for book in editions):
        raise BadBook("these are no editions: a list of books, one at least")


def need_view(view, many):
    """Refuse what is no view of that many editions."""
    if not is_view(view, many):
        raise BadCall("this is no view: a tuple of a name, a first edition, what was used, and steps that are left")


def need_views(views, many):
    """Refuse what is no list of views of that many editions, and one with a name twice."""
    if not isinstance(views, list):
        raise BadCall("this is no list of views")
    for view in views:
        need_view(view, many)
    if len({view[0] for view in views}) != len(views):
        raise BadCall("two views have the same name")


def paper_of(shelf, views):
    """The paper that is told of the editions on the shelf and the views: both were checked."""
    witnesses = []
    barring = []
    for view in views:
        reasons = reasons_against(shelf, view)
        if None in reasons:
            witnesses.append((view[0], view[1] + reasons.index(None)))
        else:
            barring.append((view[0], reasons))
    return Barred(barring) if barring else Let(witnesses)


def judged(editions, views):
    """A Let, or a Barred."""
    need_editions(editions)
    need_views(views, len(editions))
    return paper_of(shelf_of(editions), views)


def stands(editions, view):
    """All editions that stand for the view, rising."""
    need_editions(editions)
    need_view(view, len(editions))
    return standing(shelf_of(editions), view)
