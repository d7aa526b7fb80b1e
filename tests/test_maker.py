"""Promise [18]: class Maker."""

import copy
import random
import unittest

from sheafbooks.books import book_of
from sheafbooks.errors import NoNode
from sheafbooks.indexes import index_of
from sheafbooks.maker import Maker
from sheafbooks.reads import index_rows, reads_of, rows_by
from tests.common import FACETS_ONE, check_refused, lists_in
from tests.samples import element, made, node, some_book, some_counts

COUNTS = (("fig", "chapter"), ("para", "own"))
CHILD = ("child",)


def ref(part, name="", how="number"):
    return ("ref", part, name, how)


A = ("a", "On ink", element(element(("text", "By <k>"), ref("b", "x"), kind="para", name="p"),
                            element(("entry", "ink", ""), kind="fig", name="f")))
B = ("b", "On <l>", element(element(("text", "plain"), kind="fig", name="x"), element(ref("a", "", "title"))))
C = ("c", "Alone", element(element(("text", "words"), kind="para"), element(("entry", "ink", "red"))))
D = ("d", "Again", element(element(ref("b", "x"), ref("gone"), kind="note")))
PARTS = [A, B, C, D]
PLAN = node("top", node("one", part="a", keys=[("k", "one")]), node("two", node("in", part="c"), part="b"),
            node("last", part="d"), keys=[("k", "top"), ("l", "paper")])
NODES = ["one", "two", "in", "last"]


def book(parts=None, plan=PLAN):
    return book_of(FACETS_ONE, PARTS if parts is None else parts, plan, CHILD)


def afresh(some, plan, counts=COUNTS):
    """The rows of a book, made of nothing kept."""
    rows = [row for chapter in some for row in rows_by(reads_of(some, plan, counts, chapter[0]), counts)]
    return rows + index_rows(index_of(some))


def exchanged(*parts):
    """PARTS with these in the places of those of their names."""
    by_name = {part[0]: part for part in parts}
    return [by_name.get(part[0], part) for part in PARTS]


class Make(unittest.TestCase):
    def setUp(self):
        self.maker = Maker(COUNTS)
        self.maker.make(book(), PLAN)

    def check(self, some, plan, wanted):
        """What is made of the kept book is just this, and all rows are those of a new Maker."""
        before = repr((some, plan))
        told = self.maker.make(some, plan)
        self.assertEqual([type(told), type(told[0]), type(told[1])], [tuple, list, list])
        self.assertEqual(told, (afresh(some, plan), wanted))
        self.assertEqual(told[0], Maker(COUNTS).make(some, plan)[0])
        self.assertEqual(self.maker.make(some, plan), (told[0], []))
        self.assertEqual(self.maker.kept(), sorted(chapter[0] for chapter in some))
        for chapter in some:
            self.assertEqual(self.maker.reads(chapter[0]), reads_of(some, plan, COUNTS, chapter[0]))
        self.assertEqual(repr((some, plan)), before)

    def test_the_first_make_makes_all(self):
        self.maker = Maker(COUNTS)
        self.check(book(), PLAN, NODES)
        rows, made_now = Maker(COUNTS).make(book(), PLAN)
        self.assertEqual(made_now, NODES)
        self.assertEqual(rows, [
            "1 On ink", "sec", "para 1-1: By one2-1", "fig 1-1", "2 On paper", "sec", "fig 2-1: plain", "sec: On ink",
            "2.1 Alone", "sec", "para 2.1-1: words", "sec", "3 Again", "sec", "note: 2-1?", "ink: 1", "ink, red: 2.1"])

    def test_made_again(self):
        self.check(book(), PLAN, [])

    def test_no_book(self):
        self.check([], PLAN, [])
        self.assertEqual(self.maker.make([], PLAN), ([], []))
        self.assertEqual(len(self.maker), 0)

    def test_a_tuple_of_chapters(self):
        self.check(tuple(book()), PLAN, [])

    def test_a_text(self):
        other = ("c", "Alone", element(element(("text", "other words"), kind="para"), element(("entry", "ink", "red"))))
        self.check(book(exchanged(other)), PLAN, ["in"])

    def test_a_title(self):
        self.check(book(exchanged(("c", "Together",) + C[2:])), PLAN, ["in"])

    def test_a_title_that_another_chapter_tells(self):
        self.check(book(exchanged(("a", "On red ink",) + A[2:])), PLAN, ["one", "two"])

    def test_a_key(self):
        plan = node("top", *PLAN[4], keys=[("k", "other"), ("l", "paper")])
        self.check(book(plan=plan), plan, [])
        plan = node("top", node("one", part="a", keys=[("k", "two")]), *PLAN[4][1:], keys=PLAN[3])
        self.check(book(plan=plan), plan, ["one"])
        plan = node("top", *PLAN[4], keys=[("k", "top"), ("l", "vellum")])
        self.check(book(plan=plan), plan, ["one", "two"])

    def test_a_key_that_comes_to_the_same(self):
        plan = node("top", *PLAN[4], keys=[("k", "top"), ("l", "<m>"), ("m", "paper")])
        self.check(book(plan=plan), plan, [])

    def test_a_name_elsewhere(self):
        """The element that two chapters tell of is called otherwise, and so is lost to them."""
        other = ("b", "On <l>", element(element(("text", "plain"), kind="fig", name="y"), B[2][4][1]))
        self.check(book(exchanged(other)), PLAN, ["one", "two", "last"])

    def test_a_number_that_moves(self):
        more = ("b", "On <l>", element(element(kind="fig"), *B[2][4]))
        self.check(book(exchanged(more)), PLAN, ["one", "two", "last"])
        plan = node("top", PLAN[4][0], node("new", part="c"), *PLAN[4][1:], keys=PLAN[3])
        self.check(book(plan=plan), plan, ["one", "new", "two", "in", "last"])

    def test_a_chapter_behind_moves_none(self):
        plan = node("top", *PLAN[4], node("new", part="c"), keys=PLAN[3])
        self.check(book(plan=plan), plan, ["new"])

    def test_a_ref_that_is_found(self):
        parts = PARTS + [("gone", "Found", element())]
        plan = node("top", *PLAN[4], node("new", part="gone"), keys=PLAN[3])
        self.check(book(parts, plan), plan, ["last", "new"])

    def test_a_condition_or_a_home_is_read_too(self):
        """What is left has its whens and homes: a chapter with others reads otherwise, though its rows be alike."""
        other = ("c", "Alone", element(*C[2][4], when=("not", ("not", ("always",)))))
        before = self.maker.make(book(), PLAN)[0]
        self.check(book(exchanged(other)), PLAN, ["in"])
        self.assertEqual(self.maker.make(book(exchanged(other)), PLAN)[0], before)

    def test_the_index_is_made_each_time(self):
        """Rows of the index change though no chapter that stays reads otherwise."""
        some = book()
        self.check(some[:2], PLAN, [])
        self.assertEqual(self.maker.make(some[:2], PLAN)[0][-1], "ink: 1")

    def test_a_node_that_has_no_chapter_any_more(self):
        self.check(book()[:3], PLAN, [])
        self.assertEqual(self.maker.kept(), ["in", "one", "two"])
        check_refused(self, NoNode, "last", self.maker.reads, [("node", "last")])
        self.check(book(), PLAN, ["last"])

    def test_a_node_with_another_part(self):
        plan = node("top", *PLAN[4][:2], node("last", part="c"), keys=PLAN[3])
        self.check(book(plan=plan), plan, ["last"])

    def test_chapters_in_another_order(self):
        """Made are told in the list's order; rows follow it, and just what reads otherwise is made."""
        some = book()[::-1]
        self.check(some, PLAN, [])
        self.check([some[0], some[3]] + some[1:3], PLAN, [])

    def test_nothing_left(self):
        gone = ("c", "Alone", element(*C[2][4], when=("not", ("always",))))
        self.check(book(exchanged(gone)), PLAN, ["in"])
        self.check(book(), PLAN, ["in"])

    def test_what_is_refused_changes_nothing(self):
        before = self.maker.twin()
        strange = ("strange", (9,), "c", "T", made(("text", "x")))
        for some in ([strange], book()[:2] + [strange], [strange] + book()):
            with self.assertRaises(NoNode) as caught:
                self.maker.make(some, PLAN)
            self.assertEqual(caught.exception.what, "strange")
            self.assertTrue(self.maker == before)

    def test_by_chance(self):
        chance = random.Random(401)
        again = 0
        for _ in range(60):
            counts = some_counts(chance)
            maker, kept = Maker(counts), {}
            some, plan = some_book(chance)
            for _ in range(6):
                reads = {chapter[0]: reads_of(some, plan, counts, chapter[0]) for chapter in some}
                wanted = [name for name in reads if kept.get(name) != reads[name]]
                self.assertEqual(maker.make(some, plan), (afresh(some, plan, counts), wanted))
                again += len(reads) - len(wanted)
                kept = reads
                self.assertEqual(maker.kept(), sorted(kept))
                some = list(some)
                if some and chance.random() < 0.7:
                    at = chance.randrange(len(some))
                    changed = list(some[at])
                    changed[chance.choice((2, 3, 4))] = chance.choice(("a", "b"))
                    changed[4] = changed[4] if isinstance(changed[4], tuple) else None
                    some[at] = tuple(changed)
                if some and chance.random() < 0.3:
                    some.pop(chance.randrange(len(some)))
                chance.shuffle(some)
        self.assertTrue(again > 200, again)

    def test_by_names(self):
        for order in (dict(book=book(), plan=PLAN), dict(plan=PLAN, book=book())):
            maker = Maker(counts=COUNTS)
            self.assertEqual(maker.make(**order), Maker(COUNTS).make(book(), PLAN))
            self.assertEqual(maker.make(book(), plan=PLAN)[1], [])


class Kept(unittest.TestCase):
    def setUp(self):
        self.maker = Maker(COUNTS)
        self.maker.make(book(), PLAN)

    def test_bare(self):
        maker = Maker(COUNTS)
        self.assertEqual((maker.kept(), len(maker)), ([], 0))
        check_refused(self, NoNode, "one", maker.reads, [("node", "one")])
        check_refused(self, NoNode, "one", maker.forget, [("node", "one")])

    def test_kept(self):
        self.assertEqual(self.maker.kept(), ["in", "last", "one", "two"])
        self.assertEqual(len(self.maker), 4)
        self.assertIsNot(self.maker.kept(), self.maker.kept())

    def test_reads(self):
        for name in NODES:
            told = self.maker.reads(name)
            self.assertEqual((told, type(told)), (reads_of(book(), PLAN, COUNTS, name), list))
            self.assertEqual(self.maker.reads(node=name), told)
        for name in ("top", "gone", ""):
            check_refused(self, NoNode, name, self.maker.reads, [("node", name)])

    def test_forget(self):
        before = self.maker.make(book(), PLAN)[0]
        self.assertIsNone(self.maker.forget("two"))
        self.assertEqual((self.maker.kept(), len(self.maker)), (["in", "last", "one"], 3))
        check_refused(self, NoNode, "two", self.maker.reads, [("node", "two")])
        check_refused(self, NoNode, "two", self.maker.forget, [("node", "two")])
        self.assertIsNone(self.maker.forget(node="one"))
        self.assertEqual(self.maker.make(book(), PLAN), (before, ["one", "two"]))

    def test_twin(self):
        other = self.maker.twin()
        self.assertIs(type(other), Maker)
        self.assertIsNot(other, self.maker)
        self.assertTrue(other == self.maker)
        self.assertEqual(other.make(book(), PLAN)[1], [])
        other.forget("one")
        self.assertEqual((self.maker.kept(), other.kept()), (["in", "last", "one", "two"], ["in", "last", "two"]))
        self.assertFalse(other == self.maker)
        more = self.maker.twin()
        self.maker.forget("last")
        self.maker.make([], PLAN)
        self.assertEqual((len(self.maker), len(more), len(other)), (0, 4, 3))
        self.assertEqual(more.reads("one"), reads_of(book(), PLAN, COUNTS, "one"))

    def test_alike(self):
        other = Maker(COUNTS)
        self.assertTrue(Maker(COUNTS) == other)
        self.assertFalse(Maker(COUNTS) != other)
        self.assertFalse(other == self.maker)
        other.make(book(), PLAN)
        self.assertTrue(other == self.maker)
        other.forget("one")
        self.assertTrue(other != self.maker)
        other.make(book(), PLAN)
        self.assertIs(other == self.maker, True)
        other.make(book(exchanged(("c", "Together",) + C[2:])), PLAN)
        self.assertIs(other == self.maker, False)

    def test_alike_in_whatever_order_they_were_made(self):
        other = Maker(COUNTS)
        other.make(book()[::-1], PLAN)
        self.assertEqual(other == self.maker, all(other.reads(name) == self.maker.reads(name) for name in NODES))
        other.make(book(), PLAN)
        self.assertTrue(other == self.maker)

    def test_other_counts(self):
        self.assertFalse(Maker(()) == Maker(COUNTS))
        self.assertFalse(Maker((("fig", "own"),)) == Maker((("fig", "book"),)))
        self.assertTrue(Maker(()) == Maker(counts=()))

    def test_unlike_all_else(self):
        for other in (None, True, 0, "", COUNTS, (), [], {}, Maker, object(), [self.maker]):
            self.assertIs(self.maker == other, False)
            self.assertIs(self.maker != other, True)
            self.assertIs(other == self.maker, False)

    def test_told_lists_changed(self):
        for _ in range(2):
            told = self.maker.make(book(), PLAN)
            every = lists_in(told) + lists_in(self.maker.kept()) + [self.maker.reads(name) for name in NODES]
            every += [self.maker.reads("one")]
            self.assertEqual(len({id(one) for one in every}), len(every))
            wanted = copy.deepcopy(told[0])
            for one in every:
                one.clear()
                one.append("more")
            self.assertEqual(self.maker.make(book(), PLAN), (wanted, []))
            self.assertEqual(self.maker.kept(), sorted(NODES))
            for name in NODES:
                self.assertEqual(self.maker.reads(name), reads_of(book(), PLAN, COUNTS, name))

    def test_a_list_handed_in_is_not_kept(self):
        some = book()
        maker = Maker(COUNTS)
        maker.make(some, PLAN)
        some.clear()
        self.assertTrue(maker == self.maker)


if __name__ == "__main__":
    unittest.main()
