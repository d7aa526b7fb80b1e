"""MODELs, and the rows of kinds that fit them."""

from sheafbooks.places import START, laid_out, may_end, step
from sheafbooks.trees import is_tree, parts_in
from sheafbooks.words import is_name

MODEL_PARTS = 12
MODEL_DEEP = 5
BRANCHES = (("many", 1), ("row", 2), ("either", 2))


def is_model(thing):
    """Whether a thing is a MODEL."""
    if not is_tree(thing, is_model_leaf, BRANCHES, MODEL_DEEP):
        return False
    return parts_in(thing, BRANCHES) <= MODEL_PARTS


def is_model_leaf(thing):
    """Whether a tuple is a MODEL without others in it."""
    if thing == ("none",):
        return True
    return len(thing) == 2 and thing[0] == "kind" and is_name(thing[1])


def kinds_of(model):
    """The rising list of the kinds in a MODEL."""
    kinds, nexts, ends = laid_out(model)
    return sorted(set(kinds[1:]))


def fits(model, kinds):
    """Whether a row of kinds fits a MODEL."""
    return first_bad(model, kinds) is None


def first_bad(model, kinds):
    """The first place with which a row is no beginning of one that fits, how many kinds there
    are where all of it is a beginning, None where it fits."""
    layout = laid_out(model)
    places = START
    for at, kind in enumerate(kinds):
        places = step(layout, places, kind)
        if not places:
            return at
    return None if may_end(layout, places) else len(kinds)


def unlike_row(one, other):
    """The shortest and then least row of kinds that fits just one of two MODELs, or None."""
    layouts = (laid_out(one), laid_out(other))
    kinds = sorted(set(kinds_of(one) + kinds_of(other)))
    seen = {(START, START): True}
    level = [([], START, START)]
    while level:
        for row, here, there in level:
            if may_end(layouts[0], here) != may_end(layouts[1], there):
                return row
        level = next_level(layouts, kinds, seen, level)
    return None


def next_level(layouts, kinds, seen, level):
    """The rows of one kind more, rising as those of the level do.

    Of rows that lead to the same places in both MODELs only the first one, over all levels, is
    kept: whatever follows, no other of them is shorter or less.
    """
    longer = []
    for row, here, there in level:
        for kind in kinds:
            pair = (step(layouts[0], here, kind), step(layouts[1], there, kind))
            if pair not in seen:
                seen[pair] = True
                longer.append((row + [kind], pair[0], pair[1]))
    return longer
