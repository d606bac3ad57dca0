"""Books as texts: how they are written, and which texts are read."""

from midstride.errors import BadText
from midstride.steps import NUMBER_STEPS, is_body, is_word, need_book

MOST_FIGURES = 2


def written(book):
    """The text of the book."""
    need_book(book)
    return "".join(written_row(word, body) for word, body in book)


def written_row(word, body):
    """The row of a word and its body, with the line feed that ends it."""
    if not body:
        return f"{word}:\n"
    steps = "; ".join(written_step(step) for step in body)
    return f"{word}: {steps}\n"


def written_step(step):
    """The step's parts with one blank between."""
    return " ".join(str(part) for part in step)


def read(text):
    """The book that the text tells."""
    if not isinstance(text, str):
        raise BadText("this is no text")
    bodies = {}
    # Not splitlines: that parts rows at other signs, too; and not strip() alone,
    # here and below, since that takes other signs than blanks away.
    for row in text.split("\n"):
        if tells_nothing(row.strip(" ")):
            continue
        word, body = read_row(row)
        if word in bodies:
            raise BadText("two rows tell the same word")
        bodies[word] = body
    return [(word, bodies[word]) for word in sorted(bodies)]


def tells_nothing(row):
    """Whether the row, without blanks at its ends, is empty or a remark."""
    return row == "" or row.startswith("--")


def read_row(row):
    """The word and the body that the row tells."""
    parts = row.split(":")
    if len(parts) != 2:
        raise BadText("a row has one : behind its word")
    word = parts[0].strip(" ")
    if not is_word(word):
        raise BadText("a row begins with a word: 1 to 8 letters a to z")
    return (word, read_body(parts[1].strip(" ")))


def read_body(text):
    """The body that the text behind the colon tells."""
    # An empty text would be parted into one empty step.
    if text == "":
        return []
    body = [read_step(step.strip(" ")) for step in text.split(";")]
    if not is_body(body):
        raise BadText("behind the : stand at most 9 steps with ; between, or none")
    return body


def read_step(text):
    """The parts of the text, without blanks at its ends, as a step would have them; it may be none."""
    parts = text.split(" ")
    if len(parts) == 2 and parts[0] in NUMBER_STEPS:
        return (parts[0], read_number(parts[1]))
    return tuple(parts)


def read_number(text):
    """The number of one or two figures that is written just so, or None."""
    figures = text.removeprefix("-")
    # Asked first: int refuses very long texts, and it reads other signs than figures, too.
    if not 1 <= len(figures) <= MOST_FIGURES or not all("0" <= sign <= "9" for sign in figures):
        return None
    number = int(text)
    return number if str(number) == text else None
