"""Promise [13]: whether parts and a plan fit together."""

import itertools
import random
import unittest

from sheafbooks.errors import TooLong
from sheafbooks.keys import ring_of_keys, shows_key_ring, worth_at
from sheafbooks.parts import is_part
from sheafbooks.plans import is_plan
from sheafbooks.puts import how_great, lost_puts, ring_of_puts, shows_ring
from sheafbooks.soundness import unsound
from tests.common import FACETS_ONE, check_call
from tests.samples import NEVER, TEXT, element, flat_nodes, growing, node, some_plan

FINE = ("fine", "On <k>", element(("put", "bit", "x"), element(TEXT)))
BIT = ("bit", "", element(element(TEXT, name="x")))
LOST = ("lost", "", element(element(), ("put", "gone", "y")))
RING = ("ring", "", element(element(("put", "ring", "r"), name="r")))
EIGHT = ("eight", "", element(*[element()] * 7))
GREAT = ("great", "", element(*[("put", "eight", "")] * 10))
PLAN = node("top", node("one", part="fine", keys=[("k", "<l>")]), node("two", node("three", part="bit")),
            keys=[("l", "worth <z>")])
BARE = node("bare", part="nopart")
KEYS = node("keys", keys=[("a", "<b>"), ("b", "<a>")])
LONG = node("long", keys=[("a", "x" * 40), ("b", "<a>" * 11)])


def whole(*nodes, **more):
    return node("top", *nodes, **more)


class Unsound(unittest.TestCase):
    def check(self, parts, plan, wanted):
        self.assertIs(is_plan(FACETS_ONE, plan), True)
        self.assertTrue(all(is_part(FACETS_ONE, part) for part in parts))
        for some in (list(parts), tuple(parts)):
            told = unsound(some, plan)
            self.assertEqual((told, type(told)), (wanted, type(wanted)))

    def test_what_fits_together(self):
        self.check([], node("top"), None)
        self.check([FINE, BIT], PLAN, None)
        self.check([BIT, FINE], PLAN, None)
        self.check([FINE, BIT, EIGHT], PLAN, None)
        self.check([BIT], node("top", part="bit", when=NEVER), None)

    def test_node(self):
        self.check([], node("top", part="bit"), ("node", "top"))
        self.check([FINE, BIT], whole(node("a", part="gone")), ("node", "a"))
        self.check([BIT, FINE], whole(node("a", node("b", part="x"), part="bit"), node("c", part="y")), ("node", "b"))
        self.check([BIT], whole(node("a"), node("b", node("c", node("d", part="bits")))), ("node", "d"))
        self.check([BIT], whole(node("bit", part="x"), node("x", part="y")), ("node", "bit"))

    def test_node_however_its_when_is(self):
        self.check([BIT], whole(node("a", part="gone", when=NEVER)), ("node", "a"))

    def test_put(self):
        self.check([LOST], node("top"), ("put", ("lost", (1,), ("put", "gone", "y"))))
        self.check([FINE], node("top"), ("put", ("fine", (0,), ("put", "bit", "x"))))
        other = ("bit", "", element(name="y"))
        self.check([FINE, other], node("top"), ("put", ("fine", (0,), ("put", "bit", "x"))))

    def test_the_first_put_by_parts_as_handed_in(self):
        two = ("a", "", element(element(("put", "b", "")), ("put", "c", "")))
        self.check([LOST, two], node("top"), ("put", ("lost", (1,), ("put", "gone", "y"))))
        self.check([two, LOST], node("top"), ("put", ("a", (0, 0), ("put", "b", ""))))

    def test_ring(self):
        self.check([RING], node("top"), ("ring", [("ring", "r")]))
        for parts in ([("a", "", element(("put", "b", ""))), ("b", "", element(("put", "a", ""))), BIT],
                      [("a", "", element(("put", "a", "")))]):
            word, ring = unsound(parts, node("top"))
            self.assertEqual(word, "ring")
            self.assertIs(shows_ring(parts, ring), True)

    def test_eighty_elements_and_one_more(self):
        for many, wanted in ((79, None), (80, None), (81, ("great", "great")), (90, ("great", "great"))):
            parts = [EIGHT, ("great", "", element(*[("put", "eight", "")] * ((many - 1) // 8),
                                                  *[element()] * ((many - 1) % 8)))]
            self.assertEqual(how_great(parts, "great"), (many, 3))
            self.check(parts, node("top"), wanted)
            self.check(parts[::-1], node("top"), wanted)

    def test_twelve_deep_and_one_more(self):
        for deep, wanted in ((11, None), (12, None), (13, ("great", "a")), (14, ("great", "a"))):
            last = element(TEXT) if deep % 2 else element(element(TEXT))
            names = "abcdefg"[:(deep + 1) // 2]
            parts = [(name, "", element(element(("put", then, "")))) for name, then in zip(names, names[1:])]
            parts.append((names[-1], "", last))
            self.assertEqual(how_great(parts, "a"), (deep, deep))
            self.check(parts, node("top"), wanted)

    def test_the_first_that_is_too_great(self):
        more = ("more", "", element(("put", "great", "")))
        self.check([EIGHT, GREAT, more], node("top"), ("great", "great"))
        self.check([more, EIGHT, GREAT], node("top"), ("great", "more"))
        self.check([more, GREAT, EIGHT], node("top"), ("great", "more"))
        self.check([EIGHT, GREAT], PLAN[:4] + ((),), ("great", "great"))

    def test_far_too_great(self):
        parts = [(name, "", element(*[("put", then, "")] * 39)) for name, then in zip("abcdefghi", "bcdefghij")]
        parts.append(("j", "", element()))
        self.check(parts, node("top"), ("great", "a"))
        self.check(parts[::-1], node("top"), ("great", "h"))

    def test_keys(self):
        self.check([], node("top", keys=[("k", "<k>")]), ("keys", [("top", "k")]))
        word, ring = unsound([FINE, BIT], whole(*PLAN[4], KEYS))
        self.assertEqual(word, "keys")
        self.assertIs(shows_key_ring(whole(*PLAN[4], KEYS), ring), True)

    def test_long(self):
        self.check([], node("top", keys=[("a", "x" * 40), ("b", "<a>" * 10)]), None)
        self.check([], node("top", keys=[("a", "x" * 40), ("b", "<a>" * 10), ("c", "<b>.")]), ("long", "top", "c"))
        self.check([], node("top", keys=[("c", "<b>."), ("a", "x" * 40), ("b", "<a>" * 10)]), ("long", "top", "c"))
        self.check([FINE, BIT], whole(*PLAN[4], LONG), ("long", "long", "b"))

    def test_long_within(self):
        """A key that is itself short where one within it is too long goes, as it stands ahead."""
        far = [("m", "<l>" * 11), ("l", "x" * 40)]
        self.check([], node("top", keys=[("a", "<m>")] + far), ("long", "top", "a"))
        self.check([], node("top", keys=far + [("a", "<m>")]), ("long", "top", "m"))
        self.check([], node("top", node("b", keys=[("a", "<m>")]), keys=far), ("long", "top", "m"))
        self.check([], node("top", keys=[("b", "<a>"), ("a", "<m>")] + far), ("long", "top", "b"))

    def test_long_by_nodes_then_as_they_stand(self):
        ten, over = ("t", "<x>" * 10), "<t><x>"
        plan = node("top", node("a", node("b", keys=[("z", over)]), keys=[("p", "<t>")]),
                    node("c", keys=[("y", over), ("b", over)]), keys=[("x", "x" * 40), ten])
        self.check([], plan, ("long", "b", "z"))
        self.check([], node("top", plan[4][1], plan[4][0], keys=plan[3]), ("long", "c", "y"))
        self.check([], node("top", node("a", keys=[("m", "<n>"), ("n", over)]), keys=plan[3]), ("long", "a", "m"))

    def test_the_first_of_several(self):
        """Of each choice of the six the first in the order of [13]."""
        for chosen in itertools.product((False, True), repeat=6):
            bare, lost, ring, great, keys, long = chosen
            nodes = [LONG] * long + [KEYS] * keys + [BARE] * bare
            parts = [EIGHT, GREAT] * great + [RING] * ring + [LOST] * lost + [FINE, BIT]
            plan = whole(*nodes, *PLAN[4], keys=PLAN[3])
            wanted = [("node", "bare"), ("put", ("lost", (1,), ("put", "gone", "y"))), ("ring", [("ring", "r")]),
                      ("great", "great"), ("keys", [("keys", "a"), ("keys", "b")]), ("long", "long", "b")]
            due = [what for what, so in zip(wanted, chosen) if so] + [None]
            told = unsound(parts, plan)
            if told is not None and told[0] == "keys":
                self.assertIs(shows_key_ring(plan, told[1]), True)
                told = ("keys", sorted(told[1]))
            self.assertEqual(told, due[0])

    def test_rings_are_those_told_elsewhere(self):
        parts, plan = [RING], node("top", KEYS)
        self.assertEqual(unsound(parts, plan), ("ring", ring_of_puts(parts)))
        self.assertEqual(unsound([], plan), ("keys", ring_of_keys(plan)))
        self.assertEqual(unsound([LOST], plan), ("put", lost_puts([LOST])[0]))

    def test_then_no_worth_is_refused(self):
        chance = random.Random(211)
        told = {True: 0, False: 0}
        for _ in range(200):
            plan = growing(chance, some_plan(chance, FACETS_ONE))
            bad = []
            for one, _ in flat_nodes(plan):
                for name, text in one[3]:
                    try:
                        long = len(worth_at(plan, one[0], text)) > 400
                    except TooLong:
                        long = True
                    bad += [("long", one[0], name)] if long else []
            told[bad == []] += 1
            self.assertEqual(unsound([], plan), bad[0] if bad else None)
        self.assertTrue(min(told.values()) > 20, told)

    def test_by_names(self):
        for parts, plan in (([FINE, BIT], PLAN), ((RING,), PLAN[:4] + ((),)), ([], whole(KEYS)), ([], whole(LONG)),
                            ([LOST], node("top")), ([EIGHT, GREAT], node("top")), ([], whole(BARE))):
            check_call(self, unsound, [("parts", parts), ("plan", plan)])


if __name__ == "__main__":
    unittest.main()
