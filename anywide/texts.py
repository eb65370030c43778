"""Rows written as texts, and read."""

from anywide.errors import NoText
from anywide.rows import is_row

FIGURES = "0123456789"
MOST_FIGURES = 19


def read_number(word):
    """The number that a word tells by one to nineteen figures, with no 0 ahead, or None."""
    # The length is looked at first: Python itself refuses to read very long numbers.
    if not 1 <= len(word) <= MOST_FIGURES or not all([sign in FIGURES for sign in word]):
        return None
    if word[0] == "0" and word != "0":
        return None
    return int(word)


def written_part(part):
    """A tuple of a word and numbers, parted by single blanks."""
    return " ".join([str(word) for word in part])


def read_part(text):
    """The tuple of a word and numbers that a text tells, with None for what is no number."""
    words = text.split(" ")
    return (words[0],) + tuple([read_number(word) for word in words[1:]])


def show_row(row):
    """The text of a row."""
    many, deeds, out = row
    return "; ".join([written_part(part) for part in [("in", many), *deeds, ("out", out)]])


def read_row(text):
    """The row that a text tells; what is no text of a row is refused."""
    if not isinstance(text, str):
        raise NoText("what is no text tells no row")
    parts = [read_part(part) for part in text.split("; ")]
    first, last = parts[0], parts[-1]
    if len(first) != 2 or first[0] != "in" or len(last) != 2 or last[0] != "out":
        raise NoText("a row's text begins with in and ends with out, each with one number")
    row = (first[1], tuple(parts[1:-1]), last[1])
    if not is_row(row):
        raise NoText("the text is none of a row")
    return row
