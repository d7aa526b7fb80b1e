"""The places of a MODEL: its kinds as they are written, from 1; place 0 is ahead of them all.

A row of kinds is read by going from place to place; where several are meant, all are kept
beside one another. From every place some row comes to an end, as no MODEL is without rows that
fit: so what has been read is the beginning of a row that fits just while a place is left.
"""

START = (0,)


def laid_out(model):
    """The triple (kinds, nexts, ends): the kind of each place, the places that may come straight
    behind each, and the places at which a row may end."""
    kinds = [""]
    nexts = [[]]
    bare, firsts, lasts = lay(model, kinds, nexts)
    link(nexts, [0], firsts)
    ends = lasts + [0] if bare else lasts
    return kinds, nexts, ends


def lay(model, kinds, nexts):
    """Write a MODEL's places behind those written; tell whether the bare row fits it, at which
    places rows that fit begin, and at which they end."""
    word = model[0]
    if word == "none":
        return True, [], []
    if word == "kind":
        place = len(kinds)
        kinds.append(model[1])
        nexts.append([])
        return False, [place], [place]
    bare, firsts, lasts = lay(model[1], kinds, nexts)
    if word == "many":
        link(nexts, lasts, firsts)
        return True, firsts, lasts
    bare_too, more_firsts, more_lasts = lay(model[2], kinds, nexts)
    if word == "either":
        return bare or bare_too, firsts + more_firsts, lasts + more_lasts
    link(nexts, lasts, more_firsts)
    row_firsts = firsts + more_firsts if bare else firsts
    row_lasts = lasts + more_lasts if bare_too else more_lasts
    return bare and bare_too, row_firsts, row_lasts


def link(nexts, lasts, firsts):
    """Let each of the firsts come straight behind each of the lasts."""
    for last in lasts:
        nexts[last].extend(firsts)


def step(layout, places, kind):
    """The rising tuple of the places that one more kind leads to."""
    kinds, nexts, ends = layout
    return tuple(sorted({then for place in places for then in nexts[place] if kinds[then] == kind}))


def may_end(layout, places):
    """Whether a row that led to these places fits."""
    kinds, nexts, ends = layout
    return any([place in ends for place in places])
