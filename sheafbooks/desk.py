"""The desk: a house that is asked and changed by the rows of a text."""

from sheafbooks.errors import InUse, NoEdition, NoForm, NoKey, NoNode, NoPart, There, Unlawful, Unsound
from sheafbooks.house import House
from sheafbooks.orders import orders_in
from sheafbooks.plans import node_at, nodes_of
from sheafbooks.reads import index_rows

DONE = "done"
NONE = "-"


def answers(facets, forms, text):
    """The answers of a new house to the orders of a text, one by one."""
    orders = orders_in(facets, text)
    house = House(facets, forms)
    return [answered(house, order) for order in orders]


def told(texts, between):
    """Texts one behind the other, with something between, or that there's none."""
    return between.join(texts) if texts else NONE


def do_part(house, part):
    """Let a PART stand."""
    house.part(part)
    return DONE


def do_drop(house, name):
    """Let a part go."""
    house.drop(name)
    return DONE


def do_node(house, name, above, part, when):
    """Let a NODE more stand."""
    house.node(name, above, part=part, when=when)
    return DONE


def do_unnode(house, name):
    """Let a node go."""
    house.unnode(name)
    return DONE


def do_key(house, node, name, text):
    """Let a key stand at a node, in its place or behind the others."""
    keys = dict(node_at(house.plan(), node)[3])
    keys[name] = text
    house.set_keys(node, tuple(keys.items()))
    return DONE


def do_unkey(house, node, name):
    """Let a key at a node go."""
    keys = node_at(house.plan(), node)[3]
    rest = tuple([pair for pair in keys if pair[0] != name])
    if rest == keys:
        raise NoKey(name)
    house.set_keys(node, rest)
    return DONE


def do_edition(house, name, form, setting):
    """Begin an edition."""
    house.edition(name, form, setting)
    return DONE


def do_end(house, name):
    """End an edition."""
    house.end(name)
    return DONE


def do_make(house):
    """Make all books, and tell of which nodes chapters were made."""
    return told([name + ": " + told(made, " ") for name, made in house.make()], "; ")


def do_undo(house):
    """Undo the last deed."""
    return "yes" if house.undo() else "no"


def tell_rows(house, edition):
    """The rows of an edition."""
    return told(house.rows(edition), "; ")


def tell_index(house, edition):
    """The rows of an edition's index."""
    return told(index_rows(house.entries(edition)), "; ")


def tell_lost(house, edition):
    """The lost refs of an edition."""
    return told([node + ">" + thing[1] + "." + thing[2] for node, path, thing in house.lost(edition)], " ")


def tell_parts(house):
    """The names of the parts."""
    return told([part[0] for part in house.parts()], " ")


def tell_nodes(house):
    """The names of the nodes."""
    return told([name for name, above in nodes_of(house.plan())], " ")


def tell_editions(house):
    """The names of the editions."""
    return told([name for name, form, setting in house.editions()], " ")


def tell_deeds(house):
    """How many deeds are done."""
    return str(house.deeds())


ACTIONS = {
    "part": do_part, "drop": do_drop, "node": do_node, "unnode": do_unnode, "key": do_key, "unkey": do_unkey,
    "edition": do_edition, "end": do_end, "make": do_make, "undo": do_undo, "rows": tell_rows, "index": tell_index,
    "lost": tell_lost, "parts": tell_parts, "nodes": tell_nodes, "editions": tell_editions, "deeds": tell_deeds}


def answered(house, order):
    """The answer to an order, that it's refused too."""
    word, *rest = order
    action = ACTIONS[word]
    try:
        return action(house, *rest)
    except NoPart:
        return "refused NoPart"
    except NoNode:
        return "refused NoNode"
    except NoForm:
        return "refused NoForm"
    except NoEdition:
        return "refused NoEdition"
    except NoKey:
        return "refused NoKey"
    except There:
        return "refused There"
    except InUse:
        return "refused InUse"
    except Unsound:
        return "refused Unsound"
    except Unlawful:
        return "refused Unlawful"
