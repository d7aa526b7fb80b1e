"""WHENs: conditions on settings."""

from sheafbooks.facets import are_some_of, settings_in
from sheafbooks.trees import is_tree, parts_in

WHEN_PARTS = 8
WHEN_DEEP = 4
BRANCHES = (("not", 1), ("both", 2), ("either", 2))
ALWAYS = ("always",)


def is_when(facets, thing):
    """Whether a thing is a WHEN of these FACETS."""
    if not is_tree(thing, lambda leaf: is_when_leaf(facets, leaf), BRANCHES, WHEN_DEEP):
        return False
    return parts_in(thing, BRANCHES) <= WHEN_PARTS


def is_when_leaf(facets, thing):
    """Whether a tuple is a WHEN without others in it."""
    if thing == ALWAYS:
        return True
    if len(thing) != 3 or thing[0] != "is":
        return False
    return any([thing[1] == name and are_some_of(words, thing[2]) for name, words in facets])


def place_of(facets, facet):
    """The place that a facet has in FACETS and so in each SETTING and CASE."""
    return [name for name, words in facets].index(facet)


def holds(facets, when, setting):
    """Whether a WHEN holds in a SETTING."""
    word = when[0]
    if word == "always":
        return True
    if word == "is":
        return setting[place_of(facets, when[1])] in when[2]
    first = holds(facets, when[1], setting)
    if word == "not":
        return not first
    second = holds(facets, when[2], setting)
    if word == "both":
        return first and second
    return first or second


def told_in(facets, when, case):
    """True where a WHEN holds in each SETTING of a CASE, False where in none, else None."""
    answers = [holds(facets, when, setting) for setting in settings_in(case)]
    if all(answers):
        return True
    return None if any(answers) else False
