"""COUNTS, and the numbers that they give to the elements of a book."""

from sheafbooks.books import elements_left, number_text
from sheafbooks.words import are_rising_pairs

COUNTS_MOST = 8
WAYS = ("book", "chapter", "own")


def is_counts(thing):
    """Whether a thing is COUNTS."""
    return are_rising_pairs(thing, COUNTS_MOST, is_way)


def is_way(thing):
    """Whether a thing is a word for where a kind is counted."""
    return thing in WAYS


def numbers_of(book, counts):
    """The triples (node, path, text) of a book's elements of kinds in COUNTS, in order."""
    way_of = dict(counts)
    many = {}
    found = []
    for node, number, part, title, element in book:
        for path, inner in elements_left(element):
            kind = inner[0]
            if kind in way_of:
                # What is counted together has the same text ahead of its numbers.
                ahead = text_ahead(way_of[kind], number)
                many[(kind, ahead)] = many.get((kind, ahead), 0) + 1
                found.append((node, path, ahead + str(many[(kind, ahead)])))
    return found


def text_ahead(way, number):
    """What stands ahead of an element's number in the chapter of that number."""
    if way == "book":
        return ""
    return number_text(number[:1] if way == "chapter" else number) + "-"
