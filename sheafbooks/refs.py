"""Refs: the chapters and elements of a book that they mean, and what is told of these."""

from sheafbooks.books import elements_left, number_text, things_in_book
from sheafbooks.numbers import numbers_of


def meanings(book):
    """By the pairs (part, name) of refs, the name maybe bare: the pair (node, path) that they mean."""
    found = {}
    for node, number, part, title, element in book:
        found.setdefault((part, ""), (node, ()))
        for path, inner in elements_left(element):
            if inner[1] != ():
                found.setdefault(inner[1], (node, path))
    return found


def meant_by(book, part, name):
    """The pair (node, path) that a ref of that part and name means, None where there's none."""
    return meanings(book).get((part, name))


def told_of_refs(book, counts):
    """By the pairs (part, name) of refs that mean something: the pair (number, title) that is told."""
    heads = {chapter[0]: (number_text(chapter[1]), chapter[3]) for chapter in book}
    counted = {(node, path): text for node, path, text in numbers_of(book, counts)}
    told = {}
    for pair, meant in meanings(book).items():
        number, title = heads[meant[0]]
        # A bare name means the chapter, whose root may be counted at the same path.
        told[pair] = (number if pair[1] == "" else counted.get(meant, number), title)
    return told


def text_of_ref(told, thing):
    """The text of a ref by what told_of_refs tells, None where it means none."""
    word, part, name, how = thing
    if (part, name) not in told:
        return None
    number, title = told[(part, name)]
    return title if how == "title" else number


def ref_text(book, counts, thing):
    """The text of a ref, None where it means none."""
    return text_of_ref(told_of_refs(book, counts), thing)


def lost_refs(book):
    """The triples (node, path, thing) of the refs in a book that mean none, in order."""
    meant = meanings(book)
    refs = things_in_book(book, "ref")
    return [(chapter[0], path, ref) for chapter, path, ref in refs if (ref[1], ref[2]) not in meant]
