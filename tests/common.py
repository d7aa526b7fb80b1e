"""What several tests share: facets, things of any kind, and checks that hold of every function."""

import copy
import itertools
import reprlib

FACETS_ONE = (("who", ("child", "grown")),)
FACETS_TWO = (("tongue", ("dutch", "english", "latin")), ("who", ("child", "grown")))
FACETS_FOUR = (
    ("ages", ("new", "old")),
    ("place", ("east", "north", "south", "west")),
    ("tongue", ("dutch", "english", "latin")),
    ("who", ("child", "grown")),
)
FACETS_GREATEST = tuple((name, ("e", "f", "g", "h")) for name in ("a", "b", "c", "d"))
ALL_FACETS = (FACETS_ONE, FACETS_TWO, FACETS_TWO + (("year", ("one", "two")),), FACETS_FOUR)


def every_setting(facets):
    """All settings, made otherwise than the program makes them."""
    return list(itertools.product(*[words for _, words in facets]))


def nested(leaf, wrap, times):
    for _ in range(times):
        leaf = wrap(leaf)
    return leaf


def odd_things():
    """Things that are no FACETS, SETTING, CASE, WHEN, MODEL, PART or PLAN, no list of CASEs but [], no RULES but ()."""
    things = [None, True, False, 0, 1, -1, 10 ** 40, "", "a", "always", "none", "child", "\x00", "\ud800", "\u00e9"]
    things += [[], (), [()], ([],), ((),), [[]], [None], (None,), (True,), (1, 2), (1, 2, 3), (1, 2, 3, 4, 5)]
    things += [["always"], ["none"], "(always,)", ("always", "always"), ("none", "none"), (("always",),), (("none",),)]
    things += [("is",), ("not",), ("both",), ("either",), ("row",), ("many",), ("kind",), ("text",), ("put",)]
    things += [(None, None), (True, False), (0, 0, 0), ((), ()), ([], []), ("", ""), ("", "", ""), (("", ""),)]
    things += [(None, None, None, None, None), ((), (), (), (), ()), (("a",), "b"), ("a" * 50,), ({}.get("a"),)]
    things += [nested((), lambda x: (x,), 19), nested([], lambda x: [x], 19), nested("a", lambda x: (x, x), 19)]
    things += [nested(None, lambda x: [x, x], 19), nested(("always",), lambda x: ("both", x, x), 19)]
    things += [nested(("always",), lambda x: ("not", x), 19), nested(("none",), lambda x: ("row", x, x), 19)]
    things += [nested(("none",), lambda x: ("many", x), 19), nested(True, lambda x: ("either", x, x), 15)]
    things += [nested((), lambda x: ("sec", "", ("always",), "", (x,) * 30), 9)]
    return things


def check_call(test, function, arguments):
    """Call by places and by names in any order: alike, repeatable, and nothing handed in changes.

    arguments: pairs (name, value) in the order of their places.
    """
    before = copy.deepcopy(arguments)
    told = function(*[value for _, value in arguments])
    test.assertEqual(function(**dict(arguments)), told)
    test.assertEqual(function(**dict(reversed(arguments))), told)
    names = [name for name, _ in arguments[1:]]
    test.assertEqual(function(arguments[0][1], **{name: dict(arguments)[name] for name in reversed(names)}), told)
    test.assertEqual(repr(arguments), repr(before))
    check_own(test, function, arguments)
    test.assertEqual(repr(arguments), repr(before))
    return told


def lists_in(thing):
    """Every list in what is told, itself too."""
    found = [thing] if isinstance(thing, list) else []
    if isinstance(thing, (list, tuple)):
        for inner in thing:
            found += lists_in(inner)
    return found


def check_own(test, function, arguments):
    """Told lists may be changed by the asker, and that changes no other list and no later answer."""
    first = function(*[value for _, value in arguments])
    second = function(*[value for _, value in arguments])
    kept = copy.deepcopy(second)
    told = lists_in(first)
    test.assertEqual(len({id(one) for one in told + lists_in(second)}), 2 * len(told))
    for one in told:
        one.append("more")
        one.reverse()
    test.assertEqual(second, kept)
    for one in told:
        one.clear()
    test.assertEqual(repr(function(*[value for _, value in arguments])), repr(kept))


def check_refused(test, error, what, function, arguments):
    """Refused by places and by names, each time, with that class and what; nothing handed in changes."""
    before = repr(arguments)
    for _ in range(2):
        with test.assertRaises(error) as caught:
            function(*[value for _, value in arguments])
        test.assertIs(type(caught.exception), error)
        test.assertEqual((caught.exception.what, type(caught.exception.what)), (what, type(what)))
        with test.assertRaises(error) as caught:
            function(**dict(reversed(arguments)))
        test.assertEqual(caught.exception.what, what)
    test.assertEqual(repr(arguments), before)


def check_is(test, answer, wanted, thing):
    """The answer is True or False itself, not merely something as good."""
    # Shown only of an answer that is wrong, and not whole: some things would fill the memory.
    if answer is not wanted:
        test.fail(f"{answer!r} instead of {wanted!r} of {reprlib.repr(thing)}")


def as_list_at_each_depth(thing):
    """All that come of a thing of tuples where just one of its tuples is made a list."""
    if not isinstance(thing, tuple):
        return []
    found = [list(thing)]
    for at, inner in enumerate(thing):
        found += [thing[:at] + (other,) + thing[at + 1:] for other in as_list_at_each_depth(inner)]
    return found
