"""Sets written as texts, and read from them."""

from sackset.errors import NoText
from sackset.sets import GREATEST, NumberSet

EMPTY = "none"
FIGURES = "0123456789"
MOST_FIGURES = 8


def written(numbers):
    """The text of a set."""
    stretches = numbers.stretches()
    if not stretches:
        return EMPTY
    return ",".join([stretch_text(first, last) for first, last in stretches])


def stretch_text(first, last):
    """The text of a stretch."""
    return str(first) if first == last else f"{first}-{last}"


def read(text):
    """The set that a text writes."""
    numbers = NumberSet()
    # All of the text is read ahead of the first stretch that is put in: what
    # is no text is refused first.
    for first, last in read_stretches(text):
        numbers.put_all(first, last)
    return numbers


def read_stretches(text):
    """The list of pairs (first, last) that a text writes."""
    if without_blanks(text) == EMPTY:
        return []
    return [read_stretch(part) for part in text.split(",")]


def read_stretch(part):
    """The pair (first, last) of a text of one number, or of two with - between."""
    numbers = [read_number(side) for side in part.split("-")]
    if len(numbers) > 2:
        raise NoText("a stretch has one number, or two")
    return numbers[0], numbers[-1]


def read_number(side):
    """The number that a text writes."""
    figures = without_blanks(side)
    if not 1 <= len(figures) <= MOST_FIGURES:
        raise NoText("a number has one to eight figures")
    # Python reads more as a number than figures alone.
    if any(sign not in FIGURES for sign in figures):
        raise NoText("a number has figures alone")
    number = int(figures)
    if number > GREATEST:
        raise NoText("a number is not above 16777215")
    return number


def without_blanks(text):
    """A text without the blanks at its ends; tabs and line ends are no blanks."""
    return text.strip(" ")
