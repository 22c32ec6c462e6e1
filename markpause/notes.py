"""Written deeds: the text of a deed, and the deed that a text writes."""

from markpause.errors import NoDeed

# How many numbers stand behind each word.
COUNTS = {"make": 2, "take": 3, "put": 3, "share": 2, "drop": 1, "work": 1}
MOST_FIGURES = 60


def told(deed):
    """The text of a deed."""
    return " ".join([str(part) for part in deed])


def read(line):
    """The deed that a text writes."""
    parts = line.split(" ")
    word = parts[0]
    figures = parts[1:]
    if word not in COUNTS or len(figures) != COUNTS[word]:
        raise NoDeed("a deed is its word and as many numbers as that word has")
    if not all([is_number(text) for text in figures]):
        raise NoDeed("a number is 1 to 60 figures, the first one no nought")
    numbers = [int(text) for text in figures]
    return (word, *numbers)


def is_number(text):
    """Whether the text writes a number; int() itself would let in far more than that."""
    # isdigit alone takes figures of other scripts too.
    if not text.isascii() or not text.isdigit():
        return False
    if len(text) > MOST_FIGURES:
        return False
    return text == "0" or not text.startswith("0")
