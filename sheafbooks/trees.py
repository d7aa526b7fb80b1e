"""Things made of leaves and branches, as WHENs and MODELs are.

A branch is written (word, how many trees stand behind that word); all else is a leaf.
"""


def is_tree(thing, is_leaf, branches, deep):
    """Whether a thing is a tree of such leaves and branches, at most so deep.

    What lies deeper is never looked at, so that a thing of any size is soon told.
    """
    if deep < 1 or not isinstance(thing, tuple):
        return False
    for word, many in branches:
        if len(thing) == many + 1 and thing[0] == word:
            return all([is_tree(inner, is_leaf, branches, deep - 1) for inner in thing[1:]])
    return is_leaf(thing)


def parts_in(tree, branches):
    """How many parts a tree has: its leaves and branches, the whole too."""
    if tree[0] not in [word for word, many in branches]:
        return 1
    return 1 + sum([parts_in(inner, branches) for inner in tree[1:]])
