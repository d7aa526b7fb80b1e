"""What the other files have in common: the constants, NAMEs, TEXTs, what rises and what is unlike."""

LONGEST = 400

NAME_MOST = 8
TEXT_MOST = 40
# The sign's number, since the sign itself may stand in no string of the package.
PERCENT = 37


def is_name(thing):
    """Whether a thing is a NAME."""
    if not isinstance(thing, str) or not 1 <= len(thing) <= NAME_MOST:
        return False
    return all(["a" <= sign <= "z" for sign in thing])


def is_name_or_bare(thing):
    """Whether a thing is a NAME or the bare text."""
    return thing == "" or is_name(thing)


def is_text(thing, most=TEXT_MOST):
    """Whether a thing is a TEXT of at most so many signs."""
    if not isinstance(thing, str) or len(thing) > most:
        return False
    return all([" " <= sign <= "~" and ord(sign) != PERCENT for sign in thing])


def rises(texts):
    """Whether each of the texts is above the one ahead."""
    return all([texts[at] < texts[at + 1] for at in range(len(texts) - 1)])


def are_unlike(names):
    """Whether no two names are the same."""
    return len(set(names)) == len(names)
