"""Promise [17]: what a chapter's rows read, and the rows that come of it; the rows of an index."""

import random
import unittest

from sheafbooks.errors import NoNode
from sheafbooks.indexes import index_of
from sheafbooks.keys import worth_at
from sheafbooks.reads import index_rows, reads_of, rows_by
from tests.common import check_call, check_refused
from tests.samples import (ENTRY, WORDS, flat, made, node, numbers_as_written, ref_as_written, some_book, some_counts)

COUNTS = (("fig", "own"), ("para", "book"), ("text", "book"))
MARKED = ("text", "By <k>")
PLAIN = ("text", "plain")
SELF = ("ref", "a", "", "title")
FIG = ("ref", "b", "x", "number")
GONE = ("ref", "gone", "", "number")
PLAN = node("top", node("one", keys=[("k", "one")]), node("two"), node("three"), keys=[("k", "top")])
BODY = made(made(MARKED, FIG, ENTRY, MARKED, kind="para"), made(PLAIN, GONE, kind="fig"), made(SELF, FIG), made(ENTRY),
            made(kind="fig"))
BOOK = [
    ("one", (1,), "a", "On ink", BODY),
    ("two", (1, 1), "b", "", made(made(MARKED, kind="para"), made(PLAIN, home=("b", "x"), kind="fig"), kind="sec")),
    ("three", (2,), "c", "Nothing", None),
]
READS = [
    (("head", "one"), ("1", "On ink")),
    (("body", "one"), BODY),
    (("numbers", "one"), ("1", "1-1", "1-2")),
    (("text", "one", "By <k>"), "By one"),
    (FIG, "1.1-1"),
    (("text", "one", "plain"), "plain"),
    (GONE, None),
    (SELF, "On ink"),
]


class Reads(unittest.TestCase):
    def check(self, name, wanted, counts=COUNTS, book=BOOK, plan=PLAN):
        for some in (list(book), tuple(book)):
            told = reads_of(some, plan, counts, name)
            self.assertEqual(told, wanted)
            self.assertIs(type(told), list)
            self.assertEqual({type(one) for one in told}, {tuple})
            self.assertEqual([type(one[1]) for one in told[:3:2]], [tuple, tuple])

    def test_head_body_numbers_texts_and_refs(self):
        self.check("one", READS)

    def test_another_chapter(self):
        self.check("two", [(("head", "two"), ("1.1", "")), (("body", "two"), BOOK[1][4]),
                           (("numbers", "two"), ("2", "1.1-1")), (("text", "two", "By <k>"), "By top"),
                           (("text", "two", "plain"), "plain")])

    def test_a_chapter_of_which_nothing_is_left(self):
        self.check("three", [(("head", "three"), ("2", "Nothing")), (("body", "three"), None), (("numbers", "three"), ())])

    def test_bare_counts(self):
        wanted = list(READS)
        wanted[2], wanted[4] = (("numbers", "one"), ()), (FIG, "1.1")
        self.check("one", wanted, ())

    def test_by_paths(self):
        """A thing deep down stands ahead of one behind it, and tens behind nines."""
        things = [("text", letter) for letter in "zyxwvutsrqpo"]
        body = made(made(made(*things)), made(("text", "a"), things[3]))
        told = reads_of([("one", (1,), "a", "", body)], PLAN, (), "one")
        self.assertEqual([ask[2] for ask, _ in told[3:]], list("zyxwvutsrqpoa"))

    def test_refs_of_one_place_in_two_ways_are_two(self):
        one, other = ("ref", "a", "", "title"), ("ref", "a", "", "number")
        told = reads_of([("one", (1,), "a", "T", made(one, other, one))], PLAN, (), "one")
        self.assertEqual(told[3:], [(one, "T"), (other, "1")])

    def test_a_node_without_a_chapter(self):
        for name in ("top", "gone", "four", ""):
            check_refused(self, NoNode, name, reads_of,
                          [("book", BOOK), ("plan", PLAN), ("counts", COUNTS), ("node", name)])
        check_refused(self, NoNode, "one", reads_of, [("book", []), ("plan", PLAN), ("counts", ()), ("node", "one")])

    def test_by_chance(self):
        chance = random.Random(337)
        many = 0
        for _ in range(120):
            (book, plan), counts = some_book(chance), some_counts(chance)
            for name, number, _, title, body in book:
                numbers = tuple(text for other, _, text in numbers_as_written(book, counts) if other == name)
                wanted = [(("head", name), (".".join(map(str, number)), title)), (("body", name), body),
                          (("numbers", name), numbers)]
                for _, thing in flat(body) if body else []:
                    told = None
                    if thing[0] == "text":
                        told = (("text", name, thing[1]), worth_at(plan, name, thing[1]))
                    elif thing[0] == "ref":
                        told = (thing, ref_as_written(book, counts, thing))
                    wanted += [told] if told is not None and told not in wanted else []
                many += len(wanted)
                self.check(name, wanted, counts, book, plan)
        self.assertTrue(many > 2000, many)

    def test_by_names(self):
        for name in ("one", "three"):
            check_call(self, reads_of, [("book", BOOK), ("plan", PLAN), ("counts", COUNTS), ("node", name)])


def rows_as_written(reads, counts):
    """The rows of a chapter, its things looked up one by one in what is read."""
    node_name = reads[0][0][1]
    rows = [f"{reads[0][1][0]} {reads[0][1][1]}"]
    numbers = list(reads[2][1])
    for _, thing in flat(reads[1][1]) if reads[1][1] else []:
        if thing[0] in WORDS:
            continue
        row = thing[0]
        if thing[0] in dict(counts):
            row += f" {numbers.pop(0)}"
        asks = [("text", node_name, one[1]) if one[0] == "text" else one for one in thing[4] if one[0] in ("text", "ref")]
        told = [[answer for other, answer in reads if other == ask][0] for ask in asks]
        rows.append(row + (": " if told else "") + "".join("?" if one is None else one for one in told))
    return rows


class Rows(unittest.TestCase):
    def check(self, reads, counts, wanted):
        for some in (list(reads), tuple(reads)):
            told = rows_by(some, counts)
            self.assertEqual((told, type(told)), (wanted, list))

    def test_of_what_reads_of_tells(self):
        self.check(READS, COUNTS, ["1 On ink", "sec", "para 1: By one1.1-1By one", "fig 1-1: plain?",
                                   "sec: On ink1.1-1", "sec", "fig 1-2"])
        self.check(reads_of(BOOK, PLAN, COUNTS, "two"), COUNTS, ["1.1 ", "sec", "para 2: By top", "fig 1.1-1: plain"])

    def test_a_chapter_of_which_nothing_is_left(self):
        self.check(reads_of(BOOK, PLAN, COUNTS, "three"), COUNTS, ["2 Nothing"])

    def test_other_heads(self):
        self.check([(("head", "one"), ("7.7", "<k>"))] + READS[1:], COUNTS,
                   ["7.7 <k>"] + rows_by(READS, COUNTS)[1:])
        self.check([(("head", "one"), ("", ""))] + READS[1:], COUNTS, [" "] + rows_by(READS, COUNTS)[1:])

    def test_other_numbers(self):
        reads = READS[:2] + [(("numbers", "one"), ("p", "q", "r"))] + READS[3:]
        self.check(reads, COUNTS, ["1 On ink", "sec", "para p: By one1.1-1By one", "fig q: plain?", "sec: On ink1.1-1",
                                   "sec", "fig r"])

    def test_other_worths_and_texts_of_refs(self):
        reads = READS[:3] + [(READS[3][0], "<k>"), (FIG, "a b"), (READS[5][0], ""), (GONE, "there"), (SELF, None)]
        self.check(reads, COUNTS, ["1 On ink", "sec", "para 1: <k>a b<k>", "fig 1-1: there", "sec: ?a b", "sec", "fig 1-2"])

    def test_bare_texts(self):
        """An element that has texts has the colon and the blank, however bare they are."""
        body = made(made(("text", "")), made(ENTRY), made())
        reads = [(("head", "n"), ("1", "T")), (("body", "n"), body), (("numbers", "n"), ()), (("text", "n", ""), "")]
        self.check(reads, (), ["1 T", "sec", "sec: ", "sec", "sec"])
        self.check(reads[:3] + [(("text", "n", ""), None)], (), ["1 T", "sec", "sec: ?", "sec", "sec"])

    def test_things_of_its_own_alone(self):
        """What stands in an element within stands in its own row, not in that around it."""
        body = made(made(made(PLAIN)), kind="fig")
        self.check(reads_of([("one", (1,), "a", "", body)], PLAN, COUNTS, "one"), COUNTS,
                   ["1 ", "fig 1-1", "sec", "sec: plain"])

    def test_kinds_that_are_words_of_things(self):
        counts = (("entry", "book"), ("fig", "own"), ("ref", "own"), ("text", "book"))
        self.check(reads_of(BOOK, PLAN, counts, "two"), counts, ["1.1 ", "sec", "para: By top", "fig 1.1-1: plain"])

    def test_by_chance(self):
        chance = random.Random(347)
        many = 0
        for _ in range(120):
            (book, plan), counts = some_book(chance), some_counts(chance)
            for chapter in book:
                reads = reads_of(book, plan, counts, chapter[0])
                self.check(reads, counts, rows_as_written(reads, counts))
                other = [(("head", chapter[0]), ("9", "other"))] + reads[1:3]
                other += [(ask, chance.choice(("", "x", "y z", None if ask[0] == "ref" else "w"))) for ask, _ in reads[3:]]
                self.check(other, counts, rows_as_written(other, counts))
                many += len(reads)
        self.assertTrue(many > 2000, many)

    def test_by_names(self):
        for reads in (READS, tuple(READS), reads_of(BOOK, PLAN, COUNTS, "three")):
            check_call(self, rows_by, [("reads", reads), ("counts", COUNTS)])


class IndexRows(unittest.TestCase):
    def check(self, index, wanted):
        for some in (list(index), tuple(index)):
            told = index_rows(some)
            self.assertEqual((told, type(told)), (wanted, list))

    def test_with_and_without(self):
        self.check([("ink", "", ["1", "2.1"]), ("ink", "red", ["10"]), ("paper", "", []), ("paper", "old", [])],
                   ["ink: 1, 2.1", "ink, red: 10", "paper", "paper, old"])

    def test_none(self):
        self.check([], [])

    def test_in_any_order_and_twice(self):
        self.check([("z", "", ["3"]), ("a", "b", ["2", "1", "2"]), ("z", "", ["3"])], ["z: 3", "a, b: 2, 1, 2", "z: 3"])

    def test_tuples_of_numbers(self):
        self.check([("a", "", ("1", "2")), ("b", "c", ())], ["a: 1, 2", "b, c"])

    def test_signs(self):
        self.check([("a, b", "c: d", ["1"]), (" ", " ", [])], ["a, b, c: d: 1", " ,  "])

    def test_of_what_index_of_tells(self):
        book = [("one", (1,), "a", "", made(ENTRY)), ("two", (2, 1), "a", "", made(("entry", "main", ""), ENTRY))]
        self.check(index_of(book), ["main: 2.1", "main, sub: 1, 2.1"])

    def test_by_names(self):
        check_call(self, index_rows, [("index", [("ink", "", ["1", "2.1"]), ("ink", "red", [])])])


if __name__ == "__main__":
    unittest.main()
