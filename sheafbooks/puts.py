"""Puts: the elements that they mean, the rings of them, and parts with all that is put in."""

from sheafbooks.errors import NoPart
from sheafbooks.parts import WORDS, elements_of, named, things_of, things_under
from sheafbooks.rings import ends_first, is_ring, ring_in


def by_names(parts):
    """The PARTS by their names."""
    return {part[0]: part for part in parts}


def part_called(parts, name):
    """The PART of that name."""
    found = by_names(parts)
    if name not in found:
        raise NoPart(name)
    return found[name]


def element_meant(called, put):
    """The element that a put means, None where it means none."""
    word, part, name = put
    return named(called[part], name) if part in called else None


def lost_puts(parts):
    """The triples (part's name, path, thing) of the puts that mean no element."""
    called = by_names(parts)
    puts = [(part[0], path, put) for part in parts for path, put in things_of(part, "put")]
    return [(name, path, put) for name, path, put in puts if element_meant(called, put) is None]


def puts_by_pairs(parts):
    """For each pair (part, name) that means an element the pairs of the puts in it, at any depth."""
    return {(part[0], name): pairs_put(named(part, name)) for part in parts for name in names_in(part)}


def names_in(part):
    """The names by which a PART's elements are meant: the bare one of its root, and their own."""
    return [""] + [element[1] for path, element in elements_of(part) if element[1] != ""]


def pairs_put(element):
    """The pairs (part, name) of the puts in an element."""
    return [(thing[1], thing[2]) for path, thing in things_under((), element) if thing[0] == "put"]


def ring_of_puts(parts):
    """A list of pairs (part, name), in the element of each of which stands a put of the next, in
    the last's one of the first; None where there's none."""
    return ring_in(puts_by_pairs(parts))


def shows_ring(parts, thing):
    """Whether a thing is such a list as ring_of_puts tells."""
    return is_ring(puts_by_pairs(parts), thing)


def put_in(parts, name):
    """The root of that part as a MADE element, each put exchanged for the element it means."""
    root = part_called(parts, name)[2]
    return made(by_names(parts), name, root)


def made(called, home, thing):
    """A thing that is written in the part called home, with all that is put in it."""
    word = thing[0]
    if word == "put":
        return made(called, thing[1], element_meant(called, thing))
    if word in WORDS:
        return thing
    kind, name, when, tie, things = thing
    own = (home, name) if name != "" else ()
    return (kind, own, when, tie, tuple([made(called, home, inner) for inner in things]))


def how_great(parts, name):
    """How many elements that part has with all that is put in, and how deep it is then.

    Each element that a put may mean is measured once: of the greatest parts what is put in is
    far more than could be made.
    """
    part_called(parts, name)
    called = by_names(parts)
    known = {}
    for pair in ends_first(puts_by_pairs(parts)):
        known[pair] = measured(known, named(called[pair[0]], pair[1]))
    return known[(name, "")]


def measured(known, thing):
    """How many elements a thing has and how deep it is, those that puts mean being known."""
    word = thing[0]
    if word == "put":
        return known[(thing[1], thing[2])]
    if word in WORDS:
        return 0, 0
    inner = [measured(known, other) for other in thing[4]]
    return 1 + sum([many for many, deep in inner]), 1 + max([deep for many, deep in inner], default=0)
