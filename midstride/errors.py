"""What is told when something is refused."""


class StrideError(ValueError):
    """Any refusal of this program."""


class BadWord(StrideError):
    """What was handed in is no word."""


class BadBody(StrideError):
    """What was handed in is no body."""


class BadBook(StrideError):
    """What was handed in is no book."""


class BadChanges(StrideError):
    """What was handed in are no changes."""


class BadCall(StrideError):
    """What was handed in is no call."""


class BadText(StrideError):
    """What was handed in is no text that tells a book."""


class BadName(StrideError):
    """What was handed in is no name, or one that somebody has or had."""


class Unknown(StrideError):
    """What was asked for isn't there."""


class Over(StrideError):
    """The runner is over."""


class Underway(StrideError):
    """The runner isn't over."""


class TooMany(StrideError):
    """There are as many already as there may be."""
