"""Whether parts and a plan fit together."""

from sheafbooks.errors import TooLong
from sheafbooks.keys import ring_of_keys, worth_of_mark
from sheafbooks.plans import ways_in
from sheafbooks.puts import how_great, lost_puts, ring_of_puts

WHOLE_MOST = 80
WHOLE_DEEP = 12


def unsound(parts, plan):
    """The first thing by which PARTS and a PLAN don't fit together, None where there's none."""
    bare = node_without_part(parts, plan)
    if bare is not None:
        return "node", bare
    lost = lost_puts(parts)
    if lost:
        return "put", lost[0]
    ring = ring_of_puts(parts)
    if ring is not None:
        return "ring", ring
    great = part_too_great(parts)
    if great is not None:
        return "great", great
    key_ring = ring_of_keys(plan)
    if key_ring is not None:
        return "keys", key_ring
    return key_too_long(plan)


def node_without_part(parts, plan):
    """The name of the first NODE whose part isn't there, None where there's none."""
    there = [part[0] for part in parts]
    for way in ways_in(plan):
        name, part, when, keys, nodes = way[-1]
        if part != "" and part not in there:
            return name
    return None


def part_too_great(parts):
    """The name of the first PART with which too much is put in, None where there's none."""
    for part in parts:
        many, deep = how_great(parts, part[0])
        if many > WHOLE_MOST or deep > WHOLE_DEEP:
            return part[0]
    return None


def key_too_long(plan):
    """("long", node, NAME) of the first key whose worth, or some within it, is too long, or None."""
    worths = {}
    for way in ways_in(plan):
        node, part, when, keys, nodes = way[-1]
        for name, text in keys:
            if is_too_long(plan, node, name, worths):
                return "long", node, name
    return None


def is_too_long(plan, node, name, worths):
    """Whether the worth of a key that stands at a node, or some within it, is too long."""
    try:
        # At its own node a key is the one that its mark means.
        worth_of_mark(plan, node, name, worths)
    except TooLong:
        return True
    return False
