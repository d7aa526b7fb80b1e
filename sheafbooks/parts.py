"""PARTs, their ELEMENTs and THINGs."""

from sheafbooks.whens import is_when
from sheafbooks.words import are_unlike, is_name, is_name_or_bare, is_text

WORDS = ("text", "ref", "entry", "put")
HOWS = ("number", "title")
ENTRY_MOST = 20
ELEMENTS_MOST = 24
ELEMENTS_DEEP = 6
THINGS_MOST = 40


def is_part(facets, thing):
    """Whether a thing is a PART."""
    if not isinstance(thing, tuple) or len(thing) != 3:
        return False
    name, title, root = thing
    return is_name(name) and is_text(title) and is_root(facets, root)


def is_root(facets, root):
    """Whether a thing is an ELEMENT that a PART may have."""
    if not is_element(facets, root):
        return False
    names = []
    many = 0
    waiting = [(1, root)]
    while waiting:
        deep, thing = waiting.pop()
        many += 1
        # Told at once, as a thing that is handed in may be far greater than what is within bounds.
        if many > THINGS_MOST:
            return False
        if is_plain(thing):
            continue
        if deep > ELEMENTS_DEEP or not is_element(facets, thing):
            return False
        names.append(thing[1])
        waiting.extend([(deep + 1, inner) for inner in thing[4]])
    return len(names) <= ELEMENTS_MOST and are_unlike([name for name in names if name != ""])


def is_element(facets, thing):
    """Whether a thing is an ELEMENT, as far as one sees without looking into its things."""
    if not isinstance(thing, tuple) or len(thing) != 5:
        return False
    kind, name, when, tie, things = thing
    if not is_name(kind) or kind in WORDS:
        return False
    if not is_name_or_bare(name) or not is_name_or_bare(tie) or not is_when(facets, when):
        return False
    return isinstance(things, tuple) and may_stand_together(things)


def may_stand_together(things):
    """Whether these are elements and puts alone, or none of these."""
    words = [thing[0] for thing in things if isinstance(thing, tuple) and len(thing) > 0]
    whole = [word == "put" or word not in WORDS for word in words]
    return all(whole) or not any(whole)


def is_plain(thing):
    """Whether a thing is a THING other than an ELEMENT."""
    if not isinstance(thing, tuple) or len(thing) == 0:
        return False
    word, *rest = thing
    if word == "text":
        return len(rest) == 1 and is_text(rest[0])
    if word == "ref":
        return len(rest) == 3 and means_one(rest[0], rest[1]) and rest[2] in HOWS
    if word == "entry":
        return len(rest) == 2 and is_entry(rest[0], rest[1])
    return word == "put" and len(rest) == 2 and means_one(rest[0], rest[1])


def means_one(part, name):
    """Whether part and name are such as a ref or a put may have."""
    return is_name(part) and is_name_or_bare(name)


def is_entry(main, sub):
    """Whether main and sub are such as an entry may have."""
    return is_text(main, ENTRY_MOST) and main != "" and is_text(sub, ENTRY_MOST)


def things_under(path, thing):
    """The pairs (path, thing) of a thing that stands at a path, and of all in it, in order."""
    found = [(path, thing)]
    if thing[0] not in WORDS:
        for at, inner in enumerate(thing[4]):
            found.extend(things_under(path + (at,), inner))
    return found


def elements_among(things):
    """Those of the things that are elements, in order."""
    return [thing for thing in things if thing[0] not in WORDS]


def elements_of(part):
    """The pairs (path, element) of a PART, each ahead of those in it."""
    return [(path, thing) for path, thing in things_under((), part[2]) if thing[0] not in WORDS]


def things_of(part, word):
    """The pairs (path, thing) of a PART's things of that word."""
    return [(path, thing) for path, thing in things_under((), part[2]) if thing[0] == word]


def named(part, name):
    """The element of that name in a PART, the root of the bare one, None where there's none."""
    if name == "":
        return part[2]
    for path, element in elements_of(part):
        if element[1] == name:
            return element
    return None
