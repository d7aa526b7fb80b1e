"""What the rows of a chapter read, and the rows that come of it."""

from sheafbooks.books import elements_left, number_text, things_left
from sheafbooks.errors import NoNode
from sheafbooks.keys import worth_at
from sheafbooks.numbers import numbers_of
from sheafbooks.refs import text_of_ref, told_of_refs

READ_WORDS = ("text", "ref")
NO_TEXT = "?"


def reads_of(book, plan, counts, node):
    """The pairs (ask, answer) of all that the rows of a node's CHAPTER read."""
    name, number, part, title, element = chapter_of(book, node)
    counted = tuple([text for other, path, text in numbers_of(book, counts) if other == node])
    reads = [(("head", node), (number_text(number), title)), (("body", node), element), (("numbers", node), counted)]
    told = told_of_refs(book, counts)
    answers = {}
    for path, thing in things_left(element):
        if thing[0] in READ_WORDS:
            ask = ask_of(node, thing)
            if ask not in answers:
                answers[ask] = worth_at(plan, node, thing[1]) if thing[0] == "text" else text_of_ref(told, thing)
    return reads + list(answers.items())


def chapter_of(book, node):
    """The CHAPTER of a node."""
    for chapter in book:
        if chapter[0] == node:
            return chapter
    raise NoNode(node)


def ask_of(node, thing):
    """What is asked of a text or a ref in the chapter of a node."""
    return ("text", node, thing[1]) if thing[0] == "text" else thing


def rows_by(reads, counts):
    """The rows of a chapter, of what they read alone."""
    answers = {ask: answer for ask, answer in reads}
    node = reads[0][0][1]
    number, title = answers[("head", node)]
    inner = elements_left(answers[("body", node)])
    kinds = [kind for kind, way in counts]
    counted = [path for path, element in inner if element[0] in kinds]
    number_of = dict(zip(counted, answers[("numbers", node)]))
    rows = [number + " " + title]
    for path, element in inner:
        ahead = element[0] + " " + number_of[path] if path in number_of else element[0]
        rows.append(ahead + words_in(node, element, answers))
    return rows


def words_in(node, element, answers):
    """What an element's row has behind its kind and number: its texts and refs, where there are any."""
    told = [answers[ask_of(node, thing)] for thing in element[4] if thing[0] in READ_WORDS]
    shown = [NO_TEXT if text is None else text for text in told]
    return ": " + "".join(shown) if shown else ""


def index_rows(index):
    """The rows of an index."""
    return [index_row(main, sub, numbers) for main, sub, numbers in index]


def index_row(main, sub, numbers):
    """The row of a main and sub."""
    word = main if sub == "" else main + ", " + sub
    return word + ": " + ", ".join(numbers) if numbers else word
