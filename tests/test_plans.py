"""Promise [11]: NODEs and PLANs."""

import random
import unittest

from sheafbooks.errors import NoNode
from sheafbooks.plans import is_plan, node_at, nodes_left, nodes_of, way_to
from tests.common import (ALL_FACETS, FACETS_FOUR, FACETS_ONE, FACETS_TWO, as_list_at_each_depth, check_call, check_is,
                          check_refused, every_setting, nested, odd_things)
from tests.samples import ALWAYS, NEVER, node, settings_where, some_plan

CHILD = ("is", "who", ("child",))
GROWN = ("is", "who", ("grown",))
DUTCH = ("is", "tongue", ("dutch",))
LETTERS = "abcdefghijklmnopqrstuvwxyz"


def wide(many):
    """A PLAN of so many nodes, all but the first straight under it."""
    return node("top", *[node(letter) for letter in LETTERS[:many - 1]])


def deep(many):
    """A PLAN so many deep."""
    plan = node(LETTERS[many - 1])
    for at in reversed(range(many - 1)):
        plan = node(LETTERS[at], plan)
    return plan


class IsPlan(unittest.TestCase):
    def check(self, thing, wanted, facets=FACETS_TWO):
        check_is(self, is_plan(facets, thing), wanted, thing)

    def test_plain(self):
        self.check(node("a"), True)
        self.check(node("a", part="intro", when=CHILD, keys=[("key", "worth"), ("other", "")]), True)
        self.check(node("a", node("b", node("c")), node("d", part="d")), True)

    def test_names(self):
        for name, wanted in (("a", True), ("abcdefgh", True), ("text", True), ("", False), ("abcdefghi", False),
                             ("A", False), ("a b", False), ("a1", False), (None, False), (True, False), (0, False),
                             (("a",), False), (["a"], False)):
            self.check(node(name), wanted)
            self.check(node("top", node(name)), wanted)
            self.check(node("top", node("x"), node("y", node(name))), wanted)

    def test_names_twice(self):
        self.check(node("a", node("a")), False)
        self.check(node("a", node("b"), node("b")), False)
        self.check(node("a", node("b", node("c", node("d"))), node("e", node("f", node("d")))), False)
        self.check(node("a", node("b", node("c", node("a")))), False)
        self.check(node("a", node("b", node("c")), node("d", node("b"))), False)
        self.check(node("a", node("b"), node("bb"), node("ab")), True)

    def test_parts(self):
        for part, wanted in (("", True), ("a", True), ("abcdefgh", True), ("abcdefghi", False), ("A", False),
                             (" ", False), (None, False), (False, False), (0, False), ((), False), (["a"], False)):
            self.check(node("a", part=part), wanted)
            self.check(node("a", node("b"), node("c", part=part)), wanted)
        self.check(node("a", node("b", part="p"), node("c", part="p"), part="p"), True)

    def test_whens(self):
        year = ("is", "year", ("one",))
        for when, facets, wanted in ((ALWAYS, FACETS_ONE, True), (CHILD, FACETS_ONE, True), (DUTCH, FACETS_ONE, False),
                                     (DUTCH, FACETS_TWO, True), (year, FACETS_TWO, False), (year, FACETS_FOUR, False),
                                     (("is", "who", ("dutch",)), FACETS_TWO, False), (NEVER, FACETS_ONE, True),
                                     (("is", "who", ()), FACETS_TWO, False), ("always", FACETS_TWO, False),
                                     (None, FACETS_TWO, False), ((), FACETS_TWO, False), (True, FACETS_TWO, False),
                                     (("none",), FACETS_TWO, False),
                                     (nested(ALWAYS, lambda inner: ("not", inner), 3), FACETS_TWO, True),
                                     (nested(ALWAYS, lambda inner: ("not", inner), 4), FACETS_TWO, False)):
            self.check(node("a", when=when), wanted, facets)
            self.check(node("a", node("b"), node("c", node("d", when=when))), wanted, facets)

    def test_how_many_keys(self):
        for many, wanted in ((0, True), (1, True), (3, True), (4, True), (5, False), (9, False)):
            keys = [(letter, "worth") for letter in LETTERS[:many]]
            self.check(node("a", keys=keys), wanted)
            self.check(node("a", node("b", keys=keys), keys=keys[:4]), wanted)

    def test_keys_of_one_name(self):
        self.check(node("a", keys=[("k", "one"), ("k", "two")]), False)
        self.check(node("a", keys=[("k", "one"), ("k", "one")]), False)
        self.check(node("a", keys=[("k", "one"), ("l", ""), ("m", ""), ("k", "two")]), False)
        self.check(node("a", node("b", keys=[("k", ""), ("k", "")])), False)
        self.check(node("a", node("b", keys=[("k", "one")]), node("c", keys=[("k", "one")]), keys=[("k", "two")]), True)
        self.check(node("a", keys=[("l", "one"), ("k", "one")]), True)

    def test_names_of_keys(self):
        for name, wanted in (("a", True), ("abcdefgh", True), ("abcdefghi", False), ("", False), ("A", False),
                             ("a>", False), (None, False), (True, False), (1, False), (("a",), False), (["a"], False)):
            self.check(node("a", keys=[(name, "worth")]), wanted)
            self.check(node("a", node("b", keys=[("k", ""), (name, "worth")])), wanted)

    def test_texts_of_keys(self):
        for text, wanted in (("", True), (" ", True), ("~", True), ("a" * 40, True), ("a" * 41, False), ("<key>", True),
                             ("50%", False), ("a\n", False), ("\t", False), ("\x7f", False), ("\u00e4", False),
                             (None, False), (True, False), (1, False), (("a",), False), (["a"], False)):
            self.check(node("a", keys=[("k", text)]), wanted)
            self.check(node("a", node("b", keys=[("j", ""), ("k", text)])), wanted)

    def test_pairs(self):
        for pair in ((), ("k",), ("k", "a", "b"), "ka", ["k", "a"], None, (("k", "a"),)):
            self.check(node("a", keys=[pair]), False)
        for keys in (None, "", "ab", [], [("k", "a")], ("k", "a"), True, 0):
            self.check(("a", "", ALWAYS, keys, ()), False)

    def test_nodes(self):
        for nodes in (None, "", [], [node("b")], node("b"), True, ("b",), ((),), (None,), (node("b")[:4],)):
            self.check(("a", "", ALWAYS, (), nodes), False)

    def test_how_many_nodes(self):
        for many, wanted in ((1, True), (15, True), (16, True), (17, False), (18, False), (26, False)):
            self.check(wide(many), wanted)
        seven = [node(one, node(other)) for one, other in zip("abcdefg", "hijklmn")]
        self.check(node("top", *seven), True)
        self.check(node("top", *seven, node("x")), True)
        self.check(node("top", *seven, node("x", node("y"))), False)
        self.check(node("top", *seven[:6], node("g", node("n", node("x")))), True)
        self.check(node("top", *seven[:6], node("g", node("n", node("x", node("y"))))), False)

    def test_how_deep(self):
        for many, wanted in ((1, True), (2, True), (3, True), (4, True), (5, False), (6, False), (16, False)):
            self.check(deep(many), wanted)
            self.check(node("top", node("x"), deep(many - 1), node("y")) if many > 1 else node("x"), wanted)

    def test_whole(self):
        for thing in (node("a")[:4], node("a") + ((),), (), ("a",), ("a", ALWAYS, "", (), ()), (node("a"),),
                      ("a", "", ALWAYS, ())):
            self.check(thing, False)

    def test_lists_for_tuples(self):
        whole = node("a", node("b", keys=[("k", "x")], when=("not", CHILD)), node("c", node("d"), part="p"))
        self.check(whole, True)
        for thing in as_list_at_each_depth(whole):
            self.check(thing, False)

    def test_things_of_any_kind(self):
        for thing in odd_things():
            self.check(thing, False)
            for more in (node("top", thing), node("top", node("b", thing)), node("top", node("b"), thing), (thing,),
                         node("top", when=thing)):
                self.check(more, False)
            is_key = thing in (("always", "always"), ("none", "none"))
            self.check(node("top", keys=[thing]), is_key)
            self.check(node("top", keys=[("k", "x"), thing]), is_key)
            self.check(("top", "", ALWAYS, (), thing), thing == ())
            self.check(("top", "", ALWAYS, thing, ()), thing == ())
        self.check(nested(node("a"), lambda inner: ("a", "", ALWAYS, (), (inner,) * 30), 9), False)

    def test_by_names(self):
        self.assertIs(check_call(self, is_plan, [("facets", FACETS_TWO), ("thing", node("a"))]), True)
        self.assertIs(check_call(self, is_plan, [("facets", FACETS_TWO), ("thing", list(node("a")))]), False)


FIG = node("fig", part="fig", keys=[("k", "x")])
NOTE = node("note", when=CHILD)
SUB = node("sub", FIG, NOTE)
LAST = node("last", node("aa"), part="last")
PLAN = node("top", node("one", part="one"), node("two", SUB, node("zz"), when=GROWN), LAST)
NAMES = ["top", "one", "two", "sub", "fig", "note", "zz", "last", "aa"]


class Walks(unittest.TestCase):
    def test_is_plan(self):
        self.assertIs(is_plan(FACETS_TWO, PLAN), True)

    def test_nodes_of(self):
        told = nodes_of(PLAN)
        self.assertEqual(told, [("top", ""), ("one", "top"), ("two", "top"), ("sub", "two"), ("fig", "sub"),
                                ("note", "sub"), ("zz", "two"), ("last", "top"), ("aa", "last")])
        self.assertEqual(nodes_of(node("a")), [("a", "")])
        self.assertEqual(nodes_of(SUB), [("sub", ""), ("fig", "sub"), ("note", "sub")])
        self.assertEqual(nodes_of(wide(16)), [("top", "")] + [(letter, "top") for letter in LETTERS[:15]])
        self.assertIs(type(told), list)
        self.assertTrue(all(type(pair) is tuple for pair in told))

    def test_node_at(self):
        for name, wanted in (("top", PLAN), ("sub", SUB), ("fig", FIG), ("note", NOTE), ("last", LAST),
                             ("aa", node("aa"))):
            self.assertEqual(node_at(PLAN, name), wanted)
        self.assertEqual(node_at(SUB, "sub"), SUB)

    def test_way_to(self):
        for name, wanted in (("top", ["top"]), ("one", ["top", "one"]), ("fig", ["top", "two", "sub", "fig"]),
                             ("note", ["top", "two", "sub", "note"]), ("zz", ["top", "two", "zz"]),
                             ("aa", ["top", "last", "aa"])):
            self.assertEqual(way_to(PLAN, name), wanted)
        self.assertEqual(way_to(deep(4), "d"), list("abcd"))

    def test_no_node(self):
        """Parts and keys are no nodes, nor is the bare name; nor one of another plan."""
        for plan, name in ((PLAN, "three"), (PLAN, ""), (PLAN, "k"), (PLAN, "tops"), (PLAN, "to"), (SUB, "top"),
                           (SUB, "two"), (node("a", part="b"), "b")):
            for function in (node_at, way_to):
                check_refused(self, NoNode, name, function, [("plan", plan), ("name", name)])

    def test_nodes_left(self):
        for setting, wanted in ((("dutch", "grown"), [name for name in NAMES if name != "note"]),
                                (("latin", "child"), ["top", "one", "last", "aa"])):
            told = nodes_left(FACETS_TWO, PLAN, setting)
            self.assertEqual(told, wanted)
            self.assertIs(type(told), list)

    def test_nodes_left_all_above(self):
        for when, wanted in ((ALWAYS, ["a", "b", "c", "d", "e"]), (NEVER, ["a", "e"]), (CHILD, ["a", "b", "c", "d", "e"]),
                             (GROWN, ["a", "e"])):
            plan = node("a", node("b", node("c", node("d"))), node("e"))
            self.assertEqual(nodes_left(FACETS_ONE, plan[:4] + ((self.with_when(plan[4][0], when), plan[4][1]),),
                                        ("child",)), wanted)
        self.assertEqual(nodes_left(FACETS_ONE, node("a", node("b"), when=NEVER), ("child",)), [])
        self.assertEqual(nodes_left(FACETS_ONE, node("a", node("b", node("c", when=GROWN), node("d"))), ("child",)),
                         ["a", "b", "d"])
        self.assertEqual(nodes_left(FACETS_ONE, node("a", node("b", when=GROWN), when=CHILD), ("grown",)), [])

    def with_when(self, some, when):
        return some[:2] + (when,) + some[3:]

    def test_by_chance(self):
        chance = random.Random(173)
        for _ in range(100):
            facets = chance.choice(ALL_FACETS)
            plan = some_plan(chance, facets)
            self.assertIs(is_plan(facets, plan), True)
            pairs = nodes_of(plan)
            above = dict(pairs)
            for name, over in pairs:
                way = way_to(plan, name)
                self.assertEqual(way[-2:], [over, name] if over else [name])
                self.assertEqual([above[one] for one in way], [""] + way[:-1])
                self.assertEqual(node_at(plan, name)[0], name)
                self.assertIn(node_at(plan, name), node_at(plan, over)[4] if over else (plan,))
                inner = [one[0] for one in node_at(plan, name)[4]]
                self.assertEqual([one for one, over_it in pairs if over_it == name], inner)
            for setting in every_setting(facets)[:6]:
                wanted = [name for name, _ in pairs if all(
                    setting in settings_where(facets, node_at(plan, one)[2]) for one in way_to(plan, name))]
                self.assertEqual(nodes_left(facets, plan, setting), wanted)

    def test_by_names(self):
        check_call(self, nodes_of, [("plan", PLAN)])
        check_call(self, node_at, [("plan", PLAN), ("name", "sub")])
        check_call(self, way_to, [("plan", PLAN), ("name", "sub")])
        check_call(self, nodes_left, [("facets", FACETS_TWO), ("plan", PLAN), ("setting", ("dutch", "grown"))])


if __name__ == "__main__":
    unittest.main()
