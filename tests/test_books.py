"""Promise [14], books.py: CHAPTERs and their numbers."""

import random
import unittest

from sheafbooks.books import book_of, number_text
from sheafbooks.keys import worth_at
from sheafbooks.lawful import left_in
from sheafbooks.puts import put_in
from sheafbooks.soundness import unsound
from tests.common import ALL_FACETS, FACETS_ONE, FACETS_TWO, check_call, every_setting
from tests.samples import ALWAYS, ENTRY, NEVER, REF, TEXT, element, made, node, settings_where, some_plan

CHILD = ("is", "who", ("child",))
GROWN = ("is", "who", ("grown",))
A = ("a", "On <k>", element(element(TEXT, name="x", when=CHILD), element(("put", "b", "y"))))
B = ("b", "", element(element(REF, ENTRY, name="y"), when=GROWN))
C = ("c", "Of <l><z>", element())
PARTS = [A, B, C]


def numbers(plan, setting=("child",), facets=FACETS_ONE):
    """The pairs (node, number) of a book."""
    return [chapter[:2] for chapter in book_of(facets, PARTS, plan, setting)]


def leaf(name, **more):
    return node(name, part="c", **more)


class Chapters(unittest.TestCase):
    def check(self, plan, wanted, setting=("child",), parts=None):
        self.assertIsNone(unsound(PARTS if parts is None else parts, plan))
        for some in (list(PARTS if parts is None else parts), tuple(PARTS if parts is None else parts)):
            told = book_of(FACETS_ONE, some, plan, setting)
            self.assertEqual(told, wanted)
            self.assertIs(type(told), list)
            for chapter in told:
                self.assertEqual([type(chapter), type(chapter[1])], [tuple, tuple])

    def test_none(self):
        self.check(node("top"), [])
        self.check(node("top", node("one"), node("two", node("three"))), [])
        self.check(node("top", leaf("one"), when=GROWN), [])
        self.check(node("top"), [], parts=[])

    def test_one(self):
        self.check(leaf("top"), [("top", (1,), "c", "Of <l><z>", made())])
        self.check(node("top", leaf("one", keys=[("l", "books")])), [("one", (1,), "c", "Of books<z>", made())])

    def test_what_is_left_of_the_part_put_in(self):
        y = made(REF, ENTRY, home=("b", "y"))
        plan = node("top", node("one", part="a"), node("two", part="b"))
        child = made(made(TEXT, home=("a", "x"), when=CHILD), made(y))
        self.check(plan, [("one", (1,), "a", "On <k>", child), ("two", (2,), "b", "", None)])
        self.check(plan, [("one", (1,), "a", "On <k>", made(made(y))), ("two", (2,), "b", "", made(y, when=GROWN))],
                   ("grown",))

    def test_a_chapter_stands_though_its_root_is_not_left(self):
        plan = node("top", node("one", leaf("in"), part="b"), leaf("two"))
        self.check(plan, [("one", (1,), "b", "", None), ("in", (1, 1), "c", "Of <l><z>", made()),
                          ("two", (2,), "c", "Of <l><z>", made())])

    def test_titles_at_their_nodes(self):
        plan = node("top", node("one", part="a", keys=[("k", "one of <l>")]), node("two", part="a", keys=[("l", "down")]),
                    node("three", node("in", part="a"), keys=[("k", "<l>s")]), keys=[("k", "top <l>"), ("l", "up")])
        self.assertIsNone(unsound(PARTS, plan))
        titles = [chapter[3] for chapter in book_of(FACETS_ONE, PARTS, plan, ("child",))]
        self.assertEqual(titles, ["On one of up", "On top up", "On ups"])

    def test_a_part_in_several_chapters(self):
        plan = node("top", leaf("one", keys=[("l", "x")]), leaf("two", keys=[("l", "y")]))
        self.check(plan, [("one", (1,), "c", "Of x<z>", made()), ("two", (2,), "c", "Of y<z>", made())])

    def test_titles_longer_than_a_key_may_be(self):
        long = ("c", "<l><l>", element())
        plan = node("top", part="c", keys=[("l", "<m>" * 10), ("m", "x" * 40)])
        self.check(plan, [("top", (1,), "c", "x" * 800, made())], parts=[long])


class Numbers(unittest.TestCase):
    def test_beside_one_another(self):
        plan = node("top", *[leaf(letter) for letter in "abcdefghijkl"])
        self.assertEqual(numbers(plan), [(letter, (at + 1,)) for at, letter in enumerate("abcdefghijkl")])

    def test_within_one_another(self):
        plan = leaf_with("a", leaf_with("b", leaf("c"), leaf("d")), leaf("e"))
        self.assertEqual(numbers(plan), [("a", (1,)), ("b", (1, 1)), ("c", (1, 1, 1)), ("d", (1, 1, 2)), ("e", (1, 2))])
        deep = leaf_with("a", leaf_with("b", leaf_with("c", leaf("d"))))
        self.assertEqual(numbers(deep)[-1], ("d", (1, 1, 1, 1)))

    def test_under_several(self):
        plan = node("top", leaf_with("a", leaf("b")), leaf_with("c", leaf("d"), leaf("e")), leaf("f"))
        self.assertEqual(numbers(plan), [("a", (1,)), ("b", (1, 1)), ("c", (2,)), ("d", (2, 1)), ("e", (2, 2)),
                                         ("f", (3,))])

    def test_nodes_without_a_part_are_passed_through(self):
        plan = node("top", node("x", leaf("a"), leaf("b")), leaf("c"), node("y", node("z", leaf("d"))), leaf("e"))
        self.assertEqual(numbers(plan), [("a", (1,)), ("b", (2,)), ("c", (3,)), ("d", (4,)), ("e", (5,))])
        plan = leaf_with("top", node("x", leaf_with("a", leaf("b"))), leaf("c"), node("y", leaf("d")))
        self.assertEqual(numbers(plan), [("top", (1,)), ("a", (1, 1)), ("b", (1, 1, 1)), ("c", (1, 2)), ("d", (1, 3))])

    def test_nodes_that_are_not_left(self):
        plan = node("top", leaf("a", when=GROWN), leaf("b"), node("x", leaf("c"), when=GROWN), leaf("d", when=CHILD),
                    leaf_with("e", leaf("f", when=NEVER), leaf("g")))
        self.assertEqual(numbers(plan), [("b", (1,)), ("d", (2,)), ("e", (3,)), ("g", (3, 1))])
        self.assertEqual(numbers(plan, ("grown",)), [("a", (1,)), ("b", (2,)), ("c", (3,)), ("e", (4,)), ("g", (4, 1))])

    def test_what_stands_under_one_that_is_not_left(self):
        plan = node("top", node("a", leaf("b", when=CHILD), part="c", when=GROWN), leaf("d"))
        self.assertEqual(numbers(plan), [("d", (1,))])

    def test_by_chance(self):
        chance = random.Random(223)
        many = 0
        for _ in range(250):
            facets = chance.choice(ALL_FACETS[1:])
            plan = some_plan(chance, facets, parts=("", "a", "b", "c", "c"), texts=("", "x", "<z>", "y <q>"))
            self.assertIsNone(unsound(PARTS, plan))
            for setting in chance.sample(every_setting(facets), 3):
                wanted = self.chapters(facets, plan, setting)
                many += len(wanted)
                told = book_of(facets, PARTS, plan, setting)
                self.assertEqual([chapter[:3] for chapter in told], wanted)
                for name, _, part, title, whole in told:
                    self.assertEqual(whole, left_in(facets, put_in(PARTS, part), setting))
                    self.assertEqual(title, worth_at(plan, name, dict((one[0], one[1]) for one in PARTS)[part]))
        self.assertTrue(many > 1000)

    def chapters(self, facets, plan, setting):
        """Triples (node, number, part), worked out from the tree of chapters."""
        def under(some):
            """The chapters that stand straight under a node, as pairs (node, part, those under it)."""
            if setting not in settings_where(facets, some[2]):
                return []
            inner = [one for other in some[4] for one in under(other)]
            return [(some[0], some[1], inner)] if some[1] else inner

        def told(chapters, ahead):
            rows = []
            for at, (name, part, inner) in enumerate(chapters):
                number = ahead + (at + 1,)
                rows += [(name, number, part)] + told(inner, number)
            return rows
        return told(under(plan), ())

    def test_number_text(self):
        for number, wanted in (((1,), "1"), ((2, 1), "2.1"), ((10,), "10"), ((1, 12, 3), "1.12.3"),
                               ((1, 1, 1, 16), "1.1.1.16")):
            self.assertEqual(number_text(number), wanted)

    def test_by_names(self):
        plan = node("top", node("one", part="a", keys=[("k", "x")]), node("two", leaf("in"), part="b", when=ALWAYS))
        for parts in (PARTS, tuple(PARTS)):
            check_call(self, book_of, [("facets", FACETS_TWO), ("parts", parts), ("plan", plan),
                                       ("setting", ("dutch", "child"))])
        check_call(self, number_text, [("number", (2, 1))])


def leaf_with(name, *nodes, **more):
    return node(name, *nodes, part="c", **more)


if __name__ == "__main__":
    unittest.main()
