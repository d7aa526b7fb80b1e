"""FACETS, and the SETTINGs and CASEs of them."""

from sheafbooks.words import are_rising_pairs, is_name, rises

FACETS_MOST = 4
WORDS_LEAST = 2
WORDS_MOST = 4


def is_facets(thing):
    """Whether a thing is FACETS."""
    return thing != () and are_rising_pairs(thing, FACETS_MOST, are_words)


def are_words(thing):
    """Whether a thing is a tuple of words that a facet may have."""
    if not isinstance(thing, tuple) or not WORDS_LEAST <= len(thing) <= WORDS_MOST:
        return False
    return all([is_name(word) for word in thing]) and rises(thing)


def are_some_of(words, thing):
    """Whether a thing is a tuple of one or more of these words, rising."""
    if not isinstance(thing, tuple) or not 1 <= len(thing) <= len(words):
        return False
    return all([word in words for word in thing]) and rises(thing)


def is_setting(facets, thing):
    """Whether a thing is a SETTING of these FACETS."""
    if not isinstance(thing, tuple) or len(thing) != len(facets):
        return False
    return all([word in words for (name, words), word in zip(facets, thing)])


def is_case(facets, thing):
    """Whether a thing is a CASE of these FACETS."""
    if not isinstance(thing, tuple) or len(thing) != len(facets):
        return False
    return all([are_some_of(words, some) for (name, words), some in zip(facets, thing)])


def settings_in(case):
    """The rising list of the SETTINGs that a CASE has."""
    settings = [()]
    for words in case:
        settings = [setting + (word,) for setting in settings for word in words]
    return settings


def whole_case(facets):
    """The CASE of all SETTINGs."""
    return tuple([words for name, words in facets])


def common(one, other):
    """The CASE of the SETTINGs that both CASEs have, None where there is none."""
    shared = tuple([words_in_both(words, others) for words, others in zip(one, other)])
    return None if () in shared else shared


def without(one, other):
    """The CASEs, apart from one another, of the SETTINGs that one has and other hasn't."""
    shared = common(one, other)
    if shared is None:
        return [one]
    cases = []
    for at, words in enumerate(one):
        alone = tuple([word for word in words if word not in other[at]])
        if alone:
            cases.append(shared[:at] + (alone,) + one[at + 1:])
    return cases


def words_in_both(words, others):
    """The words, in their order, that are among the others too."""
    return tuple([word for word in words if word in others])
