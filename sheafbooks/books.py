"""Books: the CHAPTERs of a PLAN in a setting."""

from sheafbooks.keys import worth_at
from sheafbooks.lawful import left_in
from sheafbooks.parts import WORDS, things_under
from sheafbooks.plans import node_at, nodes_left, nodes_of
from sheafbooks.puts import part_called, put_in


def book_of(facets, parts, plan, setting):
    """The CHAPTERs of the NODEs that are left and have a part, in order."""
    left = nodes_left(facets, plan, setting)
    return [chapter_at(facets, parts, plan, setting, node, number) for node, number in numbered(plan, left)]


def numbered(plan, left):
    """The pairs (node, number) of those of these NODEs that have a part, in order."""
    # By nodes: the number behind which the chapters in that node are counted, its own or, where it
    # has no part, that of the chapter which it stands under.
    number_of = {"": ()}
    many_under = {}
    found = []
    for node, above in nodes_of(plan):
        if node not in left:
            continue
        number = number_of[above]
        if node_at(plan, node)[1] != "":
            many_under[number] = many_under.get(number, 0) + 1
            number = number + (many_under[number],)
            found.append((node, number))
        number_of[node] = number
    return found


def chapter_at(facets, parts, plan, setting, node, number):
    """The CHAPTER of a NODE that has a part."""
    name, title, root = part_called(parts, node_at(plan, node)[1])
    element = left_in(facets, put_in(parts, name), setting)
    return (node, number, name, worth_at(plan, node, title), element)


def things_left(element):
    """The pairs (path, thing) of what is left of an element, it too, in order; none of None."""
    return [] if element is None else things_under((), element)


def elements_left(element):
    """The pairs (path, element) of what is left of an element, it too, in order; none of None."""
    return [(path, thing) for path, thing in things_left(element) if thing[0] not in WORDS]


def things_in_book(book, word):
    """The triples (chapter, path, thing) of a book's things of that word, in order."""
    things = [(chapter, path, thing) for chapter in book for path, thing in things_left(chapter[4])]
    return [(chapter, path, thing) for chapter, path, thing in things if thing[0] == word]


def number_text(number):
    """A chapter's number as a text."""
    return ".".join([str(many) for many in number])
