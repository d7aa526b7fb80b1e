"""What stands in a house: a triple (parts, plan, editions), never changed, but exchanged for another.

parts are the PARTs by their names, editions by theirs (form, setting, maker, rows): the form's name,
the Maker as it was behind the last make, and the rows told then, a tuple, or None ahead of that.
"""

from sheafbooks.books import book_of
from sheafbooks.errors import InUse, NoEdition, NoForm, NoPart, There, Unlawful, Unsound
from sheafbooks.lawful import faults_in
from sheafbooks.maker import Maker
from sheafbooks.plans import exchanged_node, node_at, nodes_of
from sheafbooks.puts import put_in
from sheafbooks.soundness import unsound
from sheafbooks.whens import ALWAYS


def bare_standing(top):
    """What stands ahead of all deeds: a plan of one node."""
    return {}, (top, "", ALWAYS, (), ()), {}


def parts_by_names(now):
    """The PARTs, their names rising."""
    parts = now[0]
    return [parts[name] for name in sorted(parts)]


def edition_called(now, name):
    """The edition of that name."""
    editions = now[2]
    if name not in editions:
        raise NoEdition(name)
    return editions[name]


def book_now(facets, now, setting):
    """The book in a setting."""
    return book_of(facets, parts_by_names(now), now[1], setting)


def without_name(table, gone):
    """A dict by names without that name."""
    return {name: table[name] for name in table if name != gone}


def with_part(now, part):
    """What stands with that PART, in the place of one of its name."""
    parts, plan, editions = now
    return {**parts, part[0]: part}, plan, editions


def without_part(now, name):
    """What stands without the part of that name."""
    parts, plan, editions = now
    if name not in parts:
        raise NoPart(name)
    return without_name(parts, name), plan, editions


def with_node(now, node, above, place):
    """What stands with a NODE more under the one called above, ahead of the place-th, or of None behind all."""
    parts, plan, editions = now
    inner = node_at(plan, above)[4]
    if node[0] in dict(nodes_of(plan)):
        raise There(node[0])
    at = len(inner) if place is None else place
    longer = inner[:at] + (node,) + inner[at:]
    return parts, exchanged_node(plan, above, lambda over: over[:4] + (longer,)), editions


def without_node(now, name):
    """What stands without the node of that name."""
    parts, plan, editions = now
    if node_at(plan, name)[4] != () or name == plan[0]:
        raise InUse(name)
    above = dict(nodes_of(plan))[name]
    rest = tuple([inner for inner in node_at(plan, above)[4] if inner[0] != name])
    return parts, exchanged_node(plan, above, lambda over: over[:4] + (rest,)), editions


def with_keys(now, node, keys):
    """What stands with these keys alone at a node."""
    parts, plan, editions = now
    # Asked for its refusal alone.
    node_at(plan, node)
    return parts, exchanged_node(plan, node, lambda one: one[:3] + (keys,) + one[4:]), editions


def with_edition(now, forms, name, form, setting):
    """What stands with an edition more, its Maker begun."""
    parts, plan, editions = now
    if name in editions:
        raise There(name)
    counts_of = {called: counts for called, rules, counts in forms}
    if form not in counts_of:
        raise NoForm(form)
    return parts, plan, {**editions, name: (form, setting, Maker(counts_of[form]), None)}


def without_edition(now, name):
    """What stands without the edition of that name."""
    edition_called(now, name)
    parts, plan, editions = now
    return parts, plan, without_name(editions, name)


def all_made(facets, now):
    """What stands when each edition's Maker has made its book, and the pairs (edition, made)."""
    parts, plan, editions = now
    after = {}
    told = []
    for name in sorted(editions):
        form, setting, maker, last = editions[name]
        # The Maker itself stays as it was, for when the deed is undone.
        again = maker.twin()
        rows, made = again.make(book_now(facets, now, setting), plan)
        after[name] = (form, setting, again, tuple(rows))
        told.append((name, made))
    return (parts, plan, after), told


def refuse_unfit(facets, forms, now):
    """Refuse what is unsound, then what is unlawful in some edition."""
    parts, plan, editions = now
    what = unsound(parts_by_names(now), plan)
    if what is not None:
        raise Unsound(what)
    rules_of = {called: rules for called, rules, counts in forms}
    for name in sorted(editions):
        form, setting, maker, last = editions[name]
        node = first_unlawful(facets, rules_of[form], now, setting)
        if node is not None:
            raise Unlawful((name, node))


def first_unlawful(facets, rules, now, setting):
    """The node of the first chapter whose part, put in, has faults in a setting, None where there's none."""
    parts = parts_by_names(now)
    # Each part is judged once, in however many chapters it stands.
    bad = {}
    for chapter in book_now(facets, now, setting):
        name = chapter[2]
        if name not in bad:
            bad[name] = len(faults_in(facets, rules, put_in(parts, name), setting)) > 0
        if bad[name]:
            return chapter[0]
    return None
