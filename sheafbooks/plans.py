"""PLANs: NODEs in one another, each maybe with a part and keys."""

from sheafbooks.errors import NoNode
from sheafbooks.whens import holds, is_when
from sheafbooks.words import are_unlike, is_name, is_name_or_bare, is_named_pair, is_text

NODES_MOST = 16
NODES_DEEP = 4
KEYS_MOST = 4


def is_plan(facets, thing):
    """Whether a thing is a PLAN."""
    names = []
    waiting = [(1, thing)]
    while waiting:
        deep, node = waiting.pop()
        # Told at once, as a thing that is handed in may be far greater than what is within bounds.
        if deep > NODES_DEEP or len(names) == NODES_MOST or not is_node(facets, node):
            return False
        names.append(node[0])
        waiting.extend([(deep + 1, inner) for inner in node[4]])
    return are_unlike(names)


def is_node(facets, thing):
    """Whether a thing is a NODE, as far as one sees without looking into its nodes."""
    if not isinstance(thing, tuple) or len(thing) != 5:
        return False
    name, part, when, keys, nodes = thing
    if not is_name(name) or not is_name_or_bare(part) or not is_when(facets, when):
        return False
    return are_keys(keys) and isinstance(nodes, tuple)


def are_keys(thing):
    """Whether a thing is such keys as a NODE may have."""
    if not isinstance(thing, tuple) or len(thing) > KEYS_MOST:
        return False
    return all([is_named_pair(pair, is_text) for pair in thing]) and are_unlike([name for name, text in thing])


def ways_in(plan):
    """For each NODE, in order, the tuple of NODEs from the PLAN's own to it."""
    return ways_under((), plan)


def ways_under(above, node):
    """The ways to a NODE under those above it, and to all in it."""
    way = above + (node,)
    ways = [way]
    for inner in node[4]:
        ways.extend(ways_under(way, inner))
    return ways


def way_of_nodes(plan, name):
    """The tuple of NODEs from the PLAN's own to the one of that name."""
    for way in ways_in(plan):
        if way[-1][0] == name:
            return way
    raise NoNode(name)


def nodes_of(plan):
    """The pairs (name, name of the one above) of all NODEs, the bare name above the first."""
    return [(way[-1][0], way[-2][0] if len(way) > 1 else "") for way in ways_in(plan)]


def node_at(plan, name):
    """The NODE of that name."""
    return way_of_nodes(plan, name)[-1]


def way_to(plan, name):
    """The names from the PLAN's own to that one."""
    return [node[0] for node in way_of_nodes(plan, name)]


def nodes_left(facets, plan, setting):
    """The names of the NODEs whose WHEN holds, and those of all above them do."""
    ways = ways_in(plan)
    return [way[-1][0] for way in ways if all([holds(facets, node[2], setting) for node in way])]


def exchanged_node(plan, name, change):
    """The PLAN with what change makes of the NODE of that name in its place."""
    if plan[0] == name:
        return change(plan)
    return plan[:4] + (tuple([exchanged_node(inner, name, change) for inner in plan[4]]),)
