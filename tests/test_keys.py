"""Promise [12]: marks, the keys that they mean, and their worths."""

import itertools
import random
import re
import unittest

from sheafbooks.errors import NoNode, TooLong
from sheafbooks.keys import key_at, lost_keys, marks_in, ring_of_keys, shows_key_ring, worth_at
from sheafbooks.plans import is_plan
from sheafbooks.words import LONGEST
from tests.common import FACETS_ONE, as_list_at_each_depth, check_call, check_is, check_refused, odd_things
from tests.samples import flat_nodes, growing, node, some_plan

TEXTS = ("", "x", "<k>", "<l> and <m>", "a<n>b<o>c", "<<p>>", "<k><k>", "<z>", "<l", "<M>", "<o><p><z>")
MARK = re.compile("<([a-z]{1,8})>")


def key_as_written(plan, name, key):
    """The pair (node, TEXT), by the list of nodes with those above."""
    above = {one[0]: over for one, over in flat_nodes(plan)}
    keys = {one[0]: dict(one[3]) for one, _ in flat_nodes(plan)}
    while name != "" and key not in keys[name]:
        name = above[name]
    return (name, keys[name][key]) if name != "" else None


def led_to(plan):
    """For each key (node, NAME) the set of those that its marks mean."""
    told = {}
    for one, _ in flat_nodes(plan):
        for name, text in one[3]:
            found = [(key_as_written(plan, one[0], mark), mark) for mark in MARK.findall(text)]
            told[one[0], name] = {(key[0], mark) for key, mark in found if key}
    return told


def is_such_a_ring(plan, ring):
    led = led_to(plan)
    if not ring or len(set(ring)) < len(ring) or not set(ring) <= set(led):
        return False
    return all(ring[(at + 1) % len(ring)] in led[pair] for at, pair in enumerate(ring))


def has_ring(plan):
    led = led_to(plan)
    for start in led:
        seen, fresh = set(), {start}
        while fresh:
            fresh = {then for pair in fresh for then in led[pair]} - seen
            seen |= fresh
        if start in seen:
            return True
    return False


def worth_as_written(plan, name, text, inner=None):
    """The worth, however long, exchanged anew wherever a key is met; inner gathers (NAME, worth), those within ahead."""
    told, behind = "", 0
    for mark in MARK.finditer(text):
        key = key_as_written(plan, name, mark[1])
        worth = mark[0]
        if key is not None:
            worth = worth_as_written(plan, key[0], key[1], inner)
            if inner is not None:
                inner.append((mark[1], worth))
        told += text[behind:mark.start()] + worth
        behind = mark.end()
    return told + text[behind:]


def lost_as_written(plan, name, text):
    told = set()
    for mark in MARK.findall(text):
        key = key_as_written(plan, name, mark)
        told |= {mark} if key is None else lost_as_written(plan, *key)
    return told


class MarksIn(unittest.TestCase):
    def check(self, text, wanted):
        self.assertEqual(marks_in(text), wanted, text)
        self.assertIs(type(marks_in(text)), list)
        self.assertEqual(wanted, MARK.findall(text), text)

    def test_plain(self):
        self.check("", [])
        self.check("some words", [])
        self.check("<a>", ["a"])
        self.check("of <a> and <b> and <a>", ["a", "b", "a"])

    def test_side_by_side(self):
        self.check("<a><b>", ["a", "b"])
        self.check("<b><a><c><a>", ["b", "a", "c", "a"])
        self.check("<a>>", ["a"])
        self.check("<a>b>", ["a"])
        self.check("<a>b><c>", ["a", "c"])

    def test_signs_ahead(self):
        self.check("<<a>", ["a"])
        self.check("<<<a>>>", ["a"])
        self.check("<a<b>", ["b"])
        self.check("<a<b><c<d>", ["b", "d"])
        self.check("< <a>", ["a"])
        self.check("<>a><b>", ["b"])
        self.check("<><a>", ["a"])

    def test_no_marks(self):
        for text in ("<>", "<", ">", "><", "<a", "a>", ">a<", "<a b>", "< a>", "<a >", "<A>", "<aB>", "<a1>", "<1>",
                     "<a-b>", "<a_>", "<.>", "<a<", "<abcdefghi>", "< >", "[a]", "<a/>", "</a>", "<a|b>", "<ab"):
            self.check(text, [])

    def test_how_long(self):
        self.check("<abcdefgh>", ["abcdefgh"])
        self.check("<abcdefghi>", [])
        self.check("<abcdefghi><abcdefgh>", ["abcdefgh"])
        self.check("<abcdefghi<z>", ["z"])

    def test_at_the_beginning_and_the_end(self):
        self.check("<a> b", ["a"])
        self.check("b <a>", ["a"])
        self.check("<a> b <c>", ["a", "c"])
        self.check("<a> b <c", ["a"])
        self.check("a> b <c>", ["c"])
        self.check("<a>" * 13, ["a"] * 13)

    def test_by_chance(self):
        chance = random.Random(179)
        many = 0
        for _ in range(3000):
            text = "".join(chance.choice("<<<>>>aab zA1") for _ in range(chance.randint(0, 40)))
            self.check(text, MARK.findall(text))
            many += len(MARK.findall(text))
        self.assertTrue(many > 1000)

    def test_by_names(self):
        for text in ("", "<a> and <b>"):
            check_call(self, marks_in, [("text", text)])


TREE = node("top", node("one", node("in", keys=[("k", "of in")]), node("two", keys=[("l", "of two"), ("m", "")]),
                        keys=[("k", "of one"), ("m", "<k> <z>")]), node("other", keys=[("o", "of other")]),
            keys=[("k", "of top"), ("n", "<k><o>"), ("m", "far up")])


class KeyAt(unittest.TestCase):
    def check(self, name, key, wanted):
        told = key_at(TREE, name, key)
        self.assertEqual((told, type(told)), (wanted, type(wanted)))

    def test_the_nearest(self):
        self.check("in", "k", ("in", "of in"))
        self.check("one", "k", ("one", "of one"))
        self.check("two", "k", ("one", "of one"))
        self.check("top", "k", ("top", "of top"))
        self.check("other", "k", ("top", "of top"))

    def test_of_the_same_name_further_up(self):
        self.check("two", "m", ("two", ""))
        self.check("in", "m", ("one", "<k> <z>"))
        self.check("other", "m", ("top", "far up"))

    def test_further_up_alone(self):
        for name in ("in", "two", "one", "other", "top"):
            self.check(name, "n", ("top", "<k><o>"))

    def test_beside_or_below(self):
        self.check("in", "l", None)
        self.check("one", "l", None)
        self.check("top", "l", None)
        self.check("one", "o", None)
        self.check("top", "o", None)

    def test_none(self):
        for name in ("in", "two", "one", "other", "top"):
            self.check(name, "z", None)
            self.check(name, "top", None)
            self.check(name, "one", None)

    def test_no_node(self):
        for name in ("gone", "", "k", "tops"):
            for key in ("k", "z"):
                check_refused(self, NoNode, name, key_at, [("plan", TREE), ("node", name), ("name", key)])

    def test_by_chance(self):
        chance = random.Random(181)
        for _ in range(100):
            plan = some_plan(chance, FACETS_ONE, texts=TEXTS)
            for one, _ in flat_nodes(plan):
                for key in "klmnopq":
                    self.assertEqual(key_at(plan, one[0], key), key_as_written(plan, one[0], key))

    def test_by_names(self):
        for key in ("k", "z"):
            check_call(self, key_at, [("plan", TREE), ("node", "two"), ("name", key)])


class WorthAt(unittest.TestCase):
    def check(self, plan, name, text, wanted):
        self.assertIs(is_plan(FACETS_ONE, plan), True)
        self.assertEqual(worth_at(plan, name, text), wanted)
        self.assertEqual(worth_as_written(plan, name, text), wanted)

    def test_without_marks(self):
        for text in ("", "some words", "<", "<>", "< k>", "<K>", "a < b > c"):
            self.check(TREE, "in", text, text)

    def test_marks(self):
        self.check(TREE, "in", "<k>", "of in")
        self.check(TREE, "in", "one <k>, two <k>.", "one of in, two of in.")
        self.check(TREE, "two", "<l><m><k>", "of twoof one")
        self.check(TREE, "other", "<o>: <k> <m>", "of other: of top far up")

    def test_marks_without_a_key_stay(self):
        self.check(TREE, "in", "<z>", "<z>")
        self.check(TREE, "in", "<l> and <k><z>", "<l> and of in<z>")
        self.check(TREE, "top", "<o><abcdefgh>", "<o><abcdefgh>")
        self.check(node("a"), "a", "<a><k>", "<a><k>")

    def test_signs_around_marks(self):
        self.check(TREE, "in", "<<k>>", "<of in>")
        self.check(TREE, "in", "<k<k>", "<kof in")
        self.check(TREE, "in", "<k><", "of in<")
        self.check(TREE, "in", "<><k><K>", "<>of in<K>")

    def test_within_keys_at_the_node_where_they_stand(self):
        self.check(TREE, "in", "<m>", "of one <z>")
        self.check(TREE, "in", "<n>", "of top<o>")
        self.check(TREE, "other", "<n>", "of top<o>")
        self.check(TREE, "in", "<k> <m> <n>", "of in of one <z> of top<o>")

    def test_of_the_same_name_further_up(self):
        plan = node("a", node("b", node("c", keys=[("k", "c<l>")]), keys=[("l", "b<k>")]), keys=[("k", "a")])
        self.check(plan, "c", "<k>", "cba")
        self.check(plan, "b", "<k><l>", "aba")

    def test_what_is_put_in_is_not_looked_at_again(self):
        plan = node("a", keys=[("k", "<"), ("l", "k>"), ("m", "<k>l>"), ("n", "found")])
        self.check(plan, "a", "<k>n>", "<n>")
        self.check(plan, "a", "<k>n<l>", "<nk>")
        self.check(plan, "a", "<<l>", "<k>")
        self.check(plan, "a", "<m>", "<l>")
        self.check(plan, "a", "<k><l>", "<k>")
        self.check(plan, "a", "<k>m><n>", "<m>found")

    def test_a_mark_that_stays_within_is_not_looked_at_below(self):
        """The key stands where the text is asked, but not where the key with the mark stands."""
        plan = node("a", node("b", keys=[("l", "below")]), keys=[("k", "<l>")])
        self.check(plan, "b", "<k> <l>", "<l> below")

    def test_a_key_that_is_met_twice(self):
        plan = node("a", keys=[("k", "<l><l>"), ("l", "<m><m>"), ("m", "x")])
        self.check(plan, "a", "<k><k><l><m>", "xxxxxxxxxxx")

    def test_far_more_to_exchange_than_is_put_in(self):
        names = ["".join(pair) for pair in itertools.product("abcd", "wxyz")]
        keys = [(name, f"<{then}>" * 10) for name, then in zip(names, names[1:])] + [(names[-1], "")]
        plan = node("a", node("b", node("c", node("d", keys=keys[:4]), keys=keys[4:8]), keys=keys[8:12]), keys=keys[12:])
        self.assertIs(is_plan(FACETS_ONE, plan), True)
        self.assertEqual(worth_at(plan, "d", "a<aw>b<aw>c"), "abc")
        self.assertEqual(lost_keys(plan, "d", "<aw><zz>"), ["zz"])
        self.assertIsNone(ring_of_keys(plan))

    def test_no_node(self):
        for name in ("gone", "", "k"):
            for text in ("", "words", "<k>", "<z>"):
                check_refused(self, NoNode, name, worth_at, [("plan", TREE), ("node", name), ("text", text)])

    def test_no_node_ahead_of_too_long(self):
        plan = node("a", keys=[("k", "<l>" * 11), ("l", "x" * 40)])
        check_refused(self, NoNode, "b", worth_at, [("plan", plan), ("node", "b"), ("text", "<k>")])

    def test_four_hundred_signs_and_one_more(self):
        self.assertEqual(LONGEST, 400)
        for more, wanted in (("", 400), ("y", 401), ("<n>", 400), ("<o>", 401), ("<z>", 403)):
            plan = node("a", keys=[("k", "<l>" * 10 + more), ("l", "x" * 40), ("n", ""), ("o", "y")])
            self.assertIs(is_plan(FACETS_ONE, plan), True)
            if wanted == 400:
                self.check(plan, "a", "<k>", "x" * 400)
            else:
                self.refused(plan, "a", "<k>", "k")
            self.check(plan, "a", "<l><l>", "x" * 80)

    def test_a_whole_text_may_have_more(self):
        plan = node("a", keys=[("k", "<l>" * 10), ("l", "x" * 40)])
        self.check(plan, "a", "<k>" * 13, "x" * 5200)
        self.check(plan, "a", "<l>" * 11, "x" * 440)
        self.check(plan, "a", "<k>.", "x" * 400 + ".")

    def refused(self, plan, name, text, what):
        check_refused(self, TooLong, what, worth_at, [("plan", plan), ("node", name), ("text", text)])

    def test_too_long_the_first_from_the_left(self):
        keys = [("k", "<l>" * 11), ("l", "x" * 40), ("m", "<l>" * 12)]
        plan = node("a", keys=keys)
        self.refused(plan, "a", "<k>", "k")
        self.refused(plan, "a", "<m>", "m")
        self.refused(plan, "a", "<k><m>", "k")
        self.refused(plan, "a", "<l><m><k>", "m")
        self.refused(plan, "a", "<z>words<m> <k>", "m")
        self.check(plan, "a", "<l><l>", "x" * 80)

    def test_too_long_those_within_ahead(self):
        plan = node("a", keys=[("k", "<l><m>"), ("l", "<m><n>"), ("m", "<n>" * 11), ("n", "x" * 40)])
        for text in ("<k>", "<l>", "<m>", "<k><m>", "<n><l>"):
            self.refused(plan, "a", text, "m")
        plan = node("a", keys=[("k", "<m><l>"), ("l", "<n>" * 11), ("m", "<n>" * 12), ("n", "x" * 40)])
        self.refused(plan, "a", "<k>", "m")
        self.refused(plan, "a", "<l><k>", "l")
        plan = node("a", keys=[("k", "<l><l>"), ("l", "<n>" * 8), ("n", "x" * 40)])
        self.refused(plan, "a", "<k>", "k")
        self.refused(plan, "a", "<l><k>", "k")

    def test_too_long_a_bare_key_beside_it(self):
        plan = node("a", node("b", keys=[("k", "<l>" * 12)]), keys=[("l", "<m>" * 10), ("m", "x" * 4), ("k", "")])
        self.refused(plan, "b", "<l><k>", "k")
        self.check(plan, "a", "<l><k>", "x" * 40)

    def test_by_chance(self):
        chance = random.Random(191)
        told = {"worth": 0, "long": 0}
        for _ in range(150):
            plan = growing(chance, some_plan(chance, FACETS_ONE, most=6))
            self.assertIs(is_plan(FACETS_ONE, plan), True)
            for one, _ in flat_nodes(plan):
                for text in ("<k>", "<l>", "<m>", "<n>, <o>", "<p>", "<z>", "<p><o><n><m><l><k>", "<k><l><m><n><o><p>"):
                    inner = []
                    worth = worth_as_written(plan, one[0], text, inner)
                    long = [name for name, some in inner if len(some) > 400]
                    told["long" if long else "worth"] += 1
                    if long:
                        self.refused(plan, one[0], text, long[0])
                    else:
                        self.assertEqual(worth_at(plan, one[0], text), worth)
        self.assertTrue(min(told.values()) > 100, told)

    def test_by_names(self):
        for text in ("", "<k> <m> <n>"):
            check_call(self, worth_at, [("plan", TREE), ("node", "in"), ("text", text)])


class LostKeys(unittest.TestCase):
    def check(self, plan, name, text, wanted):
        told = lost_keys(plan, name, text)
        self.assertEqual((told, type(told)), (wanted, list))
        self.assertEqual(wanted, sorted(lost_as_written(plan, name, text)))

    def test_none(self):
        for text in ("", "words", "<k>", "<k><k>", "< z>", "<K>"):
            self.check(TREE, "in", text, [])

    def test_rising_each_once(self):
        self.check(TREE, "in", "<z><b><a>", ["a", "b", "z"])
        self.check(TREE, "in", "<z><aa><z><a><z>", ["a", "aa", "z"])
        self.check(TREE, "in", "<k><l>", ["l"])
        self.check(TREE, "two", "<k><l>", [])

    def test_within(self):
        self.check(TREE, "in", "<m>", ["z"])
        self.check(TREE, "other", "<m>", [])
        self.check(TREE, "other", "<n>", ["o"])
        self.check(TREE, "other", "<n><o>", ["o"])
        self.check(TREE, "in", "<y><m><n>", ["o", "y", "z"])

    def test_within_what_is_within(self):
        plan = node("a", keys=[("k", "<l>"), ("l", "<m><y>"), ("m", "<z>")])
        self.check(plan, "a", "<k>", ["y", "z"])
        self.check(plan, "a", "<m>", ["z"])

    def test_a_mark_that_comes_of_exchanging(self):
        plan = node("a", keys=[("k", "<"), ("l", "z>")])
        self.check(plan, "a", "<k>z>", [])
        self.check(plan, "a", "<k><l>", [])
        self.check(plan, "a", "<<l>", [])

    def test_of_worths_that_are_too_long(self):
        plan = node("a", keys=[("k", "<l>" * 13), ("l", "<m>" * 13), ("m", "<z>" * 13)])
        self.check(plan, "a", "<k>", ["z"])

    def test_no_node(self):
        for name in ("gone", "", "k"):
            for text in ("", "words", "<k>", "<z>"):
                check_refused(self, NoNode, name, lost_keys, [("plan", TREE), ("node", name), ("text", text)])

    def test_by_chance(self):
        chance = random.Random(193)
        many = 0
        for _ in range(200):
            plan = some_plan(chance, FACETS_ONE, texts=TEXTS, most=8)
            if has_ring(plan):
                continue
            for one, _ in flat_nodes(plan):
                for text in TEXTS:
                    wanted = sorted(lost_as_written(plan, one[0], text))
                    many += len(wanted)
                    self.check(plan, one[0], text, wanted)
        self.assertTrue(many > 300)

    def test_by_names(self):
        for text in ("", "<z><m><n><a>"):
            check_call(self, lost_keys, [("plan", TREE), ("node", "in"), ("text", text)])


ONE = node("a", keys=[("k", "of <k>")])
THREE = node("a", keys=[("k", "<l>"), ("l", "<z><m>"), ("m", "x<k>y")])
# l of b is met by the k that stands there; the k that l meets is that one again.
OVER = node("top", node("b", node("c", keys=[("m", "<l>")]), keys=[("l", "<k>"), ("k", "<l>")]), keys=[("k", "end")])


class Rings(unittest.TestCase):
    def check(self, plan, wanted=None):
        """That there's a ring, just that one in some turn where it is told, and that it's taken, turned as well."""
        self.assertIs(is_plan(FACETS_ONE, plan), True)
        ring = ring_of_keys(plan)
        self.assertIs(type(ring), list)
        self.assertTrue(is_such_a_ring(plan, ring), ring)
        for turn in range(len(ring)):
            check_is(self, shows_key_ring(plan, ring[turn:] + ring[:turn]), True, ring)
        if wanted is not None:
            self.assertIn(ring, [wanted[turn:] + wanted[:turn] for turn in range(len(wanted))])

    def test_none(self):
        for plan in (node("a"), TREE, node("a", keys=[("k", "<l>"), ("l", "<m>"), ("m", "<n>")]),
                     node("a", keys=[("k", "< k>"), ("l", "<L>"), ("m", "m"), ("n", "<n")])):
            self.assertIsNone(ring_of_keys(plan))
            for ring in ([("a", "k")], [("a", "k"), ("a", "l")], [("top", "k")], [("one", "m"), ("one", "k")]):
                check_is(self, shows_key_ring(plan, ring), False, ring)

    def test_of_one(self):
        self.check(ONE, [("a", "k")])
        self.check(node("a", node("b", keys=[("k", "<k>")]), keys=[("k", "<l>"), ("l", "x")]), [("b", "k")])
        self.check(node("a", keys=[("j", "<k>"), ("k", "<j2><k>"), ("l", "<k>")]), [("a", "k")])

    def test_of_several(self):
        self.check(THREE, [("a", "k"), ("a", "l"), ("a", "m")])
        self.check(OVER, [("b", "l"), ("b", "k")])
        self.check(node("a", keys=[("k", "<m>"), ("l", "<k>"), ("m", "<n>"), ("n", "<l>")]),
                   [("a", "k"), ("a", "m"), ("a", "n"), ("a", "l")])

    def test_over_several_nodes_there_is_none(self):
        """A key further up never reads one below it: so what looks like a ring over several nodes ends."""
        plan = node("a", node("b", keys=[("k", "<l>")]), keys=[("l", "<k>")])
        self.assertIsNone(ring_of_keys(plan))
        check_is(self, shows_key_ring(plan, [("b", "k"), ("a", "l")]), False, plan)
        self.assertEqual(worth_at(plan, "b", "<k>"), "<k>")

    def test_met_from_several_nodes(self):
        """Keys of many nodes lead into one ring, and a node further down has one of its own."""
        plan = node("a", node("b", node("c", keys=[("n", "<o>"), ("o", "<k><n>")]), keys=[("m", "<l>")]),
                    keys=[("k", "<l>"), ("l", "<k>")])
        self.check(plan)
        for ring, wanted in (([("a", "k"), ("a", "l")], True), ([("c", "n"), ("c", "o")], True),
                             ([("b", "m"), ("a", "l"), ("a", "k")], False), ([("c", "o"), ("a", "k")], False)):
            check_is(self, shows_key_ring(plan, ring), wanted, ring)

    def test_of_the_same_name_further_up(self):
        plan = node("a", node("b", keys=[("l", "<k>")]), keys=[("k", "<l>"), ("l", "end")])
        self.assertIsNone(ring_of_keys(plan))
        check_is(self, shows_key_ring(plan, [("b", "l"), ("a", "k")]), False, plan)
        check_is(self, shows_key_ring(plan, [("a", "l"), ("a", "k")]), False, plan)
        self.assertEqual(worth_at(plan, "b", "<l>"), "end")

    def test_by_chance(self):
        chance = random.Random(197)
        told = {True: 0, False: 0}
        for _ in range(400):
            plan = some_plan(chance, FACETS_ONE, texts=TEXTS, most=8)
            told[has_ring(plan)] += 1
            if has_ring(plan):
                self.check(plan)
            else:
                self.assertIsNone(ring_of_keys(plan))
        self.assertTrue(min(told.values()) > 60, told)

    def test_by_names(self):
        for plan in (ONE, THREE, TREE):
            check_call(self, ring_of_keys, [("plan", plan)])


class ShowsKeyRing(unittest.TestCase):
    def check(self, plan, thing, wanted):
        check_is(self, shows_key_ring(plan, thing), wanted, thing)

    def test_pairs_out_twice_and_exchanged(self):
        ring = [("a", "k"), ("a", "l"), ("a", "m")]
        self.check(THREE, ring, True)
        for at in range(3):
            self.check(THREE, ring[:at] + ring[at + 1:], False)
            self.check(THREE, ring[:at] + [ring[at]] + ring[at:], False)
            self.check(THREE, ring + [ring[at]], False)
        self.check(THREE, ring + ring, False)
        self.check(THREE, ring[::-1], False)
        self.check(THREE, [ring[1], ring[0], ring[2]], False)
        self.check(ONE, [("a", "k")] * 2, False)

    def test_pairs_that_are_no_keys(self):
        for ring in ([("a", "l")], [("b", "k")], [("k", "a")], [("", "k")], [("a", "")], [("a", "of <k>")]):
            self.check(ONE, ring, False)
        # The key that is meant stands further up.
        self.check(node("a", node("b"), keys=[("k", "<k>")]), [("b", "k")], False)
        self.check(node("a", node("b"), keys=[("k", "<k>")]), [("a", "k")], True)

    def test_bare_list_and_tuples(self):
        for plan in (ONE, THREE, OVER, TREE, node("a")):
            self.check(plan, [], False)
            self.check(plan, (), False)
        for plan in (ONE, THREE, OVER):
            ring = ring_of_keys(plan)
            self.check(plan, tuple(ring), False)
            for at, pair in enumerate(ring):
                for thing in as_list_at_each_depth(pair):
                    self.check(plan, ring[:at] + [thing] + ring[at + 1:], False)
                for thing in (pair + ("",), pair[:1], pair[0], pair[::-1], (pair,), ()):
                    self.check(plan, ring[:at] + [thing] + ring[at + 1:], False)

    def test_things_of_any_kind(self):
        for thing in odd_things():
            for plan in (ONE, THREE, node("a")):
                for more in (thing, [thing], [("a", "k"), thing], [thing, ("a", "k")], [(thing, "k"), ("a", "l")],
                             [("a", thing)], ("a", thing)):
                    self.check(plan, more, False)
            self.check(ONE, [(thing, "k")], thing == "a")

    def test_every_short_list(self):
        chance = random.Random(199)
        told = {True: 0, False: 0}
        for _ in range(100):
            plan = some_plan(chance, FACETS_ONE, texts=TEXTS, most=3)
            pairs = list(led_to(plan))[:6] + [("gone", "k")]
            for size in range(1, 4):
                for some in itertools.product(pairs, repeat=size):
                    wanted = is_such_a_ring(plan, list(some))
                    told[wanted] += 1
                    self.check(plan, list(some), wanted)
        self.assertTrue(min(told.values()) > 30, told)

    def test_by_names(self):
        ring = ring_of_keys(THREE)
        for thing in (ring, ring[1:], tuple(ring)):
            self.assertIs(check_call(self, shows_key_ring, [("plan", THREE), ("thing", thing)]), thing == ring)


if __name__ == "__main__":
    unittest.main()
