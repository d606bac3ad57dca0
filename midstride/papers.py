"""Papers: what lets changes through, or who bars them, with reasons."""

from midstride.views import is_reason, shelf_of, standing


class Paper:
    """What is told of editions and views: a Let or a Barred."""


class Let(Paper):
    """The witnesses are pairs of a name and an edition that stands for its view, one for each view."""

    def __init__(self, witnesses):
        self.witnesses = [(name, edition) for name, edition in witnesses]

    def shows(self, editions, views):
        """Whether they are, as they stand now."""
        if names_in(self.witnesses) != names_in(views):
            return False
        shelf = shelf_of(editions)
        return all(edition in standing(shelf, view) for (name, edition), view in zip(self.witnesses, views))


class Barred(Paper):
    """The reasons are pairs of a name and a list of reasons, one for each view for which no edition stands."""

    def __init__(self, reasons):
        self.reasons = [(name, [copied_reason(reason) for reason in told]) for name, told in reasons]

    def shows(self, editions, views):
        """Whether they are, as they stand now."""
        shelf = shelf_of(editions)
        barring = [view for view in views if not standing(shelf, view)]
        if not barring or names_in(self.reasons) != names_in(barring):
            return False
        return all(are_reasons(told, shelf, view) for (name, told), view in zip(self.reasons, barring))


def names_in(rows):
    """The names with which pairs or views begin."""
    return [row[0] for row in rows]


def copied_reason(reason):
    """The reason, its row of words anew if it has one."""
    sort, told = reason
    return (sort, list(told) if isinstance(told, list) else told)


def are_reasons(reasons, shelf, view):
    """Whether they tell rightly, for each edition from the view's first one on, why it doesn't stand."""
    later = shelf[view[1]:]
    if len(reasons) != len(later):
        return False
    return all(is_reason(reason, bodies, shelf[-1], view) for reason, bodies in zip(reasons, later))
