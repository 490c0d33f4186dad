"""Lines: a trail written as texts, one for each entry, and read from them."""

from trailbook.errors import NoLine
from trailbook.trails import check_trail

WORDS = ("did", "no", "unsure", "undid")
FIGURES = "0123456789"


def shown(trail):
    return [f"{word} {step}" for word, step in trail]


def is_number(text):
    # Not isdigit: that takes the figures of other scripts too.
    if text == "" or text.strip(FIGURES) != "":
        return False
    return text == "0" or text[0] != "0"


def number_of(figures):
    # Not int: that refuses texts of some thousand figures.
    number = 0
    for figure in figures:
        number = number * 10 + FIGURES.index(figure)
    return number


def entry_of(line):
    parts = line.partition(" ")
    if parts[0] not in WORDS or not is_number(parts[2]):
        raise NoLine("a line is the writing of no entry")
    return (parts[0], number_of(parts[2]))


def read(many, lines):
    # All lines first: a line of no entry is told ahead of entries that are no trail.
    trail = [entry_of(line) for line in lines]
    check_trail(many, trail)
    return trail
