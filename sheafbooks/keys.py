"""Marks in TEXTs, the keys that they mean at a node, and what is put for them."""

from sheafbooks.errors import TooLong
from sheafbooks.plans import way_of_nodes, ways_in
from sheafbooks.rings import is_ring, ring_in
from sheafbooks.words import LONGEST, is_name


def pieces_of(text):
    """A text's pieces, in order, as pairs (word, piece): "mark" and its NAME, or "plain" and what
    stands there."""
    first, *others = text.split("<")
    pieces = [("plain", first)]
    for piece in others:
        name, end, behind = piece.partition(">")
        if end == ">" and is_name(name):
            pieces.extend([("mark", name), ("plain", behind)])
        else:
            pieces.append(("plain", "<" + piece))
    return pieces


def marks_in(text):
    """The NAMEs of a TEXT's marks, in order."""
    return [piece for word, piece in pieces_of(text) if word == "mark"]


def key_at(plan, node, name):
    """The pair (node, TEXT) of the key of that name nearest on the way up, None where there's none."""
    for above in reversed(way_of_nodes(plan, node)):
        for key, text in above[3]:
            if key == name:
                return above[0], text
    return None


def keys_by_pairs(plan):
    """For each key, as the pair (node, NAME), the pairs of the keys that the marks in its TEXT mean."""
    nodes = [way[-1] for way in ways_in(plan)]
    return {(node[0], name): pairs_meant(plan, node[0], text) for node in nodes for name, text in node[3]}


def pairs_meant(plan, node, text):
    """The pairs (node, NAME) of the keys that a text's marks mean at a node."""
    found = [(key_at(plan, node, name), name) for name in marks_in(text)]
    return [(key[0], name) for key, name in found if key is not None]


def ring_of_keys(plan):
    """A list of pairs (node, NAME) of keys, in each one's TEXT a mark that means the next, in the
    last's one that means the first; None where there's none."""
    return ring_in(keys_by_pairs(plan))


def shows_key_ring(plan, thing):
    """Whether a thing is such a list as ring_of_keys tells."""
    return is_ring(keys_by_pairs(plan), thing)


def worth_at(plan, node, text):
    """A text with each mark exchanged for the worth of its key at a node."""
    # Asked ahead of all, as a text without marks is refused, too, where there's no such node.
    way_of_nodes(plan, node)
    return exchanged(plan, node, text, {})


def exchanged(plan, node, text, worths):
    """A text's worth at a node; worths keeps those of the keys that were worked out."""
    told = [piece if word == "plain" else worth_of_mark(plan, node, piece, worths) for word, piece in pieces_of(text)]
    return "".join(told)


def worth_of_mark(plan, node, name, worths):
    """What is put for a mark of that NAME at a node.

    Each key is worked out once: of keys within keys there may be far more to exchange than is
    ever put in.
    """
    key = key_at(plan, node, name)
    if key is None:
        return "<" + name + ">"
    above, text = key
    if (above, name) not in worths:
        worth = exchanged(plan, above, text, worths)
        if len(worth) > LONGEST:
            raise TooLong(name)
        worths[(above, name)] = worth
    return worths[(above, name)]


def lost_keys(plan, node, text):
    """The rising list of the NAMEs of marks that have no key, of those within keys too."""
    way_of_nodes(plan, node)
    lost = []
    met = {}
    waiting = [(node, text)]
    while waiting:
        here, inner = waiting.pop()
        for name in marks_in(inner):
            key = key_at(plan, here, name)
            if key is None:
                lost.append(name)
            elif (key[0], name) not in met:
                met[(key[0], name)] = True
                waiting.append(key)
    return sorted(set(lost))
