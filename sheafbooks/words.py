"""What the other files have in common: the constants, NAMEs, TEXTs, what rises and what is unlike."""

LONGEST = 400

NAME_MOST = 8
TEXT_MOST = 40
# The sign's number, since the sign itself may stand in no string of the package.
PERCENT = 37


def is_name(thing):
    """Whether a thing is a NAME."""
    if not isinstance(thing, str) or not 1 <= len(thing) <= NAME_MOST:
        return False
    return all(["a" <= sign <= "z" for sign in thing])


def is_name_or_bare(thing):
    """Whether a thing is a NAME or the bare text."""
    return thing == "" or is_name(thing)


def is_text(thing, most=TEXT_MOST):
    """Whether a thing is a TEXT of at most so many signs."""
    if not isinstance(thing, str) or len(thing) > most:
        return False
    return all([" " <= sign <= "~" and ord(sign) != PERCENT for sign in thing])


def is_named_pair(thing, is_worth):
    """Whether a thing is a pair of a NAME and something that is_worth tells True of."""
    return isinstance(thing, tuple) and len(thing) == 2 and is_name(thing[0]) and is_worth(thing[1])


def are_rising_pairs(thing, most, is_worth):
    """Whether a thing is a tuple of at most so many such pairs, their NAMEs rising."""
    if not isinstance(thing, tuple) or len(thing) > most:
        return False
    if not all([is_named_pair(pair, is_worth) for pair in thing]):
        return False
    return rises([name for name, worth in thing])


def rises(texts):
    """Whether each of the texts is above the one ahead."""
    return all([texts[at] < texts[at + 1] for at in range(len(texts) - 1)])


def are_unlike(names):
    """Whether no two names are the same."""
    return len(set(names)) == len(names)
