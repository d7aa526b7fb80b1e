"""Rings among pairs of texts, each of which leads to others.

What leads where is a dict: for each pair the list of those that it leads to. A pair that is no
key of the dict leads nowhere and lies on no ring.
"""


def ends_first(nexts):
    """The pairs from which no way leads into a ring, each behind all that it leads to."""
    waits = {key: len([other for other in nexts[key] if other in nexts]) for key in nexts}
    befores = {pair: [] for pair in nexts}
    for pair in nexts:
        for then in nexts[pair]:
            if then in nexts:
                befores[then].append(pair)
    ordered = []
    ready = [pair for pair in nexts if waits[pair] == 0]
    while ready:
        done = ready.pop()
        ordered.append(done)
        for before in befores[done]:
            waits[before] -= 1
            if waits[before] == 0:
                ready.append(before)
    return ordered


def ring_in(nexts):
    """A list of pairs, none twice, each of which leads to the next, the last to the first; None
    where there's none."""
    ending = {pair: True for pair in ends_first(nexts)}
    going = [pair for pair in nexts if pair not in ending]
    if not going:
        return None
    walk = []
    pair = going[0]
    while pair not in walk:
        walk.append(pair)
        # Some way goes on from here, or the pair would be among the ending ones.
        pair = [then for then in nexts[pair] if then in nexts and then not in ending][0]
    return walk[walk.index(pair):]


def is_ring(nexts, thing):
    """Whether a thing is such a list as ring_in tells."""
    if not isinstance(thing, list) or not 1 <= len(thing) <= len(nexts):
        return False
    if not all([is_pair(pair) and pair in nexts for pair in thing]):
        return False
    if len(set(thing)) != len(thing):
        return False
    return all([then in nexts[pair] for pair, then in zip(thing, thing[1:] + thing[:1])])


def is_pair(thing):
    """Whether a thing is a pair of texts."""
    if not isinstance(thing, tuple) or len(thing) != 2:
        return False
    return all([isinstance(text, str) for text in thing])
