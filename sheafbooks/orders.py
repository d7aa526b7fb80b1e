"""The rows of a desk, read as orders: tuples of a word and of what stands behind it."""

from sheafbooks.errors import BadRow
from sheafbooks.facets import is_setting
from sheafbooks.texts import name_read, part_in, when_read
from sheafbooks.words import is_name, is_name_or_bare, is_text

PART_ROW = "| "
PART_BEGINS = "| part "
# The words behind which just so many NAMEs stand.
NAMES_BEHIND = {
    "drop": 1, "unnode": 1, "unkey": 2, "end": 1, "make": 0, "undo": 0, "rows": 1, "index": 1, "lost": 1, "parts": 0,
    "nodes": 0, "editions": 0, "deeds": 0}


def orders_in(facets, text):
    """The orders of a text, one of each row, but of a part's rows together one."""
    rows = text.split("\n")
    orders = []
    at = 0
    while at < len(rows):
        behind = end_of_order(rows, at)
        orders.append(order_in(facets, rows, at, behind))
        at = behind
    return orders


def end_of_order(rows, at):
    """The place behind the rows of the order that begins at a place."""
    behind = at + 1
    if rows[at].startswith(PART_BEGINS):
        while behind < len(rows) and goes_on(rows[behind]):
            behind += 1
    return behind


def goes_on(row):
    """Whether a row goes on with the part whose row is ahead of it."""
    return row.startswith(PART_ROW) and not row.startswith(PART_BEGINS)


def order_in(facets, rows, at, behind):
    """The order of the rows from one place to ahead of the other."""
    if rows[at].startswith(PART_BEGINS):
        return ("part", part_of_rows(facets, rows, at, behind))
    order = order_read(facets, rows[at])
    if order is None:
        raise BadRow(at)
    return order


def part_of_rows(facets, rows, at, behind):
    """The PART of the rows from one place to ahead of the other."""
    text = "\n".join([row[len(PART_ROW):] for row in rows[at:behind]])
    try:
        return part_in(facets, text)
    except BadRow as e:
        raise BadRow(at + e.what) from None


def order_read(facets, row):
    """The order of a row, None where it isn't so written."""
    word, *rest = row.split(" ")
    if word in NAMES_BEHIND:
        return (word,) + tuple(rest) if len(rest) == NAMES_BEHIND[word] and are_names(rest) else None
    if word == "node":
        return node_order(facets, rest)
    if word == "key":
        return key_order(row)
    if word == "edition":
        return edition_order(facets, rest)
    return None


def are_names(words):
    """Whether all words are NAMEs."""
    return all([is_name(word) for word in words])


def node_order(facets, words):
    """The order of the words behind node, None where they aren't so written."""
    if len(words) < 4 or not are_names(words[:2]):
        return None
    part = name_read(words[2])
    when = when_read(facets, words[3:])
    if not is_name_or_bare(part) or when is None:
        return None
    return ("node", words[0], words[1], part, when)


def key_order(row):
    """The order of a row that begins with key, None where it isn't so written."""
    words = row.split(" ", 3)
    if len(words) != 4 or not are_names(words[1:3]) or not is_text(words[3]):
        return None
    return tuple(words)


def edition_order(facets, words):
    """The order of the words behind edition, None where they aren't so written."""
    setting = tuple(words[2:])
    if not are_names(words[:2]) or not is_setting(facets, setting):
        return None
    return ("edition", words[0], words[1], setting)
