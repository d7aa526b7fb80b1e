"""WHENs and MODELs by chance (with a seed, so always the same), and what the document says of them."""

import itertools

ALWAYS = ("always",)


def some_when(chance, facets, deep):
    """A WHEN at most so deep, of however many parts."""
    word = chance.choice(("always", "is", "is", "not", "both", "either", "both", "either")) if deep > 1 else "is"
    if word == "always":
        return ALWAYS
    if word == "is":
        facet, words = chance.choice(facets)
        return ("is", facet, tuple(sorted(chance.sample(words, chance.randint(1, len(words))))))
    many = 1 if word == "not" else 2
    return (word,) + tuple(some_when(chance, facets, deep - 1) for _ in range(many))


def some_model(chance, kinds, deep):
    """A MODEL at most so deep, of however many parts."""
    word = chance.choice(("none", "kind", "kind", "many", "row", "either", "row", "either")) if deep > 1 else "kind"
    if word == "none":
        return ("none",)
    if word == "kind":
        return ("kind", chance.choice(kinds))
    many = 1 if word == "many" else 2
    return (word,) + tuple(some_model(chance, kinds, deep - 1) for _ in range(many))


def parts_of(tree):
    """How many parts a WHEN or MODEL has."""
    if tree[0] in ("always", "is", "none", "kind"):
        return 1
    return 1 + sum(parts_of(inner) for inner in tree[1:])


def settings_where(facets, when):
    """The settings in which a WHEN holds, worked out as sets of settings."""
    every = set(itertools.product(*[words for _, words in facets]))
    word, *rest = when
    if word == "always":
        return every
    if word == "is":
        at = [name for name, _ in facets].index(rest[0])
        return {setting for setting in every if setting[at] in rest[1]}
    inner = [settings_where(facets, other) for other in rest]
    if word == "not":
        return every - inner[0]
    return inner[0] & inner[1] if word == "both" else inner[0] | inner[1]


def rows_of(model, most):
    """The set of all rows that fit a MODEL and have at most so many kinds, worked out as sets of rows."""
    word, *rest = model
    if word == "none":
        return {()}
    if word == "kind":
        return {(rest[0],)} if most > 0 else set()
    inner = [rows_of(other, most) for other in rest]
    if word == "either":
        return inner[0] | inner[1]
    if word == "row":
        return {one + other for one in inner[0] for other in inner[1] if len(one + other) <= most}
    told = {()}
    fresh = {()}
    while fresh:
        fresh = {one + other for one in fresh for other in inner[0] if len(one + other) <= most} - told
        told |= fresh
    return told
