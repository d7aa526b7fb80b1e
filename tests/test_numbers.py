"""Promise [14], numbers.py: COUNTS, and the numbers of elements."""

import random
import unittest

from sheafbooks.books import book_of
from sheafbooks.numbers import is_counts, numbers_of
from tests.common import FACETS_ONE, as_list_at_each_depth, check_call, check_is, odd_things
from tests.samples import ENTRY, REF, TEXT, element, made, node, numbers_as_written, some_book, some_counts

EIGHT = tuple((kind, "book") for kind in "abcdefgh")
FIG = made(kind="fig")
ALL_HOWS = (("fig", "book"), ("note", "chapter"), ("para", "own"))


def chapter(name, number, body, part="a", title="T"):
    return (name, number, part, title, body)


def texts(book, counts):
    return [text for _, _, text in numbers_of(book, counts)]


class Counts(unittest.TestCase):
    def check(self, wanted, *things):
        for thing in things:
            check_is(self, is_counts(thing), wanted, thing)

    def test_counts(self):
        self.check(True, (), (("fig", "book"),), (("fig", "chapter"),), (("fig", "own"),), ALL_HOWS, EIGHT)

    def test_kinds_that_are_words_of_things(self):
        self.check(True, (("entry", "book"), ("put", "own"), ("ref", "chapter"), ("text", "book")))
        for kind in ("text", "ref", "entry", "put"):
            self.check(True, ((kind, "own"),))

    def test_nine(self):
        self.check(False, EIGHT + (("i", "book"),), EIGHT * 2)

    def test_kinds_that_do_not_rise(self):
        self.check(False, (("b", "book"), ("a", "book")), (("a", "book"), ("a", "own")), (("a", "book"), ("a", "book")))
        self.check(False, (("a", "book"), ("c", "own"), ("b", "book")), EIGHT[::-1])

    def test_other_words(self):
        self.check(False, *[(("fig", how),) for how in ("", "books", "Book", "part", "node", "title", "number", "words")])
        self.check(False, *[(("fig", how),) for how in (None, True, False, 0, 1, [], (), ["book"], ("book",), ("none",))])

    def test_other_kinds(self):
        self.check(False, *[((kind, "book"),) for kind in ("", "Fig", "abcdefghi", "a b", "fig1", None, 1, True, (), ["a"])])
        self.check(True, (("abcdefgh", "book"),))

    def test_other_pairs(self):
        self.check(False, ("fig", "book"), (("fig",),), (("fig", "book", "own"),), ("fig",), ((),), (("fig", "book"), ()))

    def test_lists_for_tuples(self):
        self.check(False, *as_list_at_each_depth(ALL_HOWS))
        self.check(False, [], list(ALL_HOWS), [list(pair) for pair in ALL_HOWS])

    def test_things_of_any_kind(self):
        for thing in odd_things():
            check_is(self, is_counts(thing), thing == (), thing)
            check_is(self, is_counts(((thing, "book"),)), thing == "a" or thing in ("always", "none", "child"), thing)
            check_is(self, is_counts((("fig", thing),)), False, thing)

    def test_by_name(self):
        for thing in (ALL_HOWS, (), None, [ALL_HOWS]):
            check_call(self, is_counts, [("thing", thing)])


class Numbers(unittest.TestCase):
    BOOK = [
        chapter("one", (1,), made(FIG, made(FIG, kind="note"), made(kind="para"))),
        chapter("two", (1, 1), made(FIG, FIG, kind="note")),
        chapter("three", (2,), made(made(kind="para"), made(kind="note"), FIG, made(kind="para"))),
    ]

    def check(self, book, counts, wanted):
        self.assertIs(is_counts(counts), True)
        for some in (list(book), tuple(book)):
            told = numbers_of(some, counts)
            self.assertEqual(told, wanted)
            self.assertIs(type(told), list)
            self.assertEqual({type(one) for one in told} | {type(one[1]) for one in told}, {tuple} if told else set())

    def test_in_the_whole_book(self):
        self.check(self.BOOK, (("fig", "book"),), [
            ("one", (0,), "1"), ("one", (1, 0), "2"), ("two", (0,), "3"), ("two", (1,), "4"), ("three", (2,), "5")])

    def test_in_chapters_of_one_first_number(self):
        self.check(self.BOOK, (("fig", "chapter"),), [
            ("one", (0,), "1-1"), ("one", (1, 0), "1-2"), ("two", (0,), "1-3"), ("two", (1,), "1-4"),
            ("three", (2,), "2-1")])

    def test_in_its_own_chapter(self):
        self.check(self.BOOK, (("fig", "own"),), [
            ("one", (0,), "1-1"), ("one", (1, 0), "1-2"), ("two", (0,), "1.1-1"), ("two", (1,), "1.1-2"),
            ("three", (2,), "2-1")])

    def test_each_kind_in_its_way(self):
        self.check(self.BOOK, ALL_HOWS, [
            ("one", (0,), "1"), ("one", (1,), "1-1"), ("one", (1, 0), "2"), ("one", (2,), "1-1"),
            ("two", (), "1-2"), ("two", (0,), "3"), ("two", (1,), "4"),
            ("three", (0,), "2-1"), ("three", (1,), "2-1"), ("three", (2,), "5"), ("three", (3,), "2-2")])

    def test_kinds_are_counted_apart(self):
        self.check([chapter("one", (1,), made(FIG, made(kind="note"), FIG, made(kind="note")))],
                   (("fig", "own"), ("note", "own")),
                   [("one", (0,), "1-1"), ("one", (1,), "1-1"), ("one", (2,), "1-2"), ("one", (3,), "1-2")])

    def test_none(self):
        self.check([], ALL_HOWS, [])
        self.check([], (), [])
        self.check(self.BOOK, (), [])
        self.check(self.BOOK, (("table", "book"),), [])

    def test_words_of_things_count_no_things(self):
        book = [chapter("one", (1,), made(made(TEXT, REF, ENTRY)))]
        self.check(book, (("entry", "book"), ("put", "own"), ("ref", "chapter"), ("text", "book")), [])

    def test_ten_behind_nine(self):
        book = [chapter("one", (1,), made(*[FIG] * 12))]
        self.check(book, (("fig", "own"),), [("one", (at,), f"1-{at + 1}") for at in range(12)])
        deep = [chapter("one", (1,), made(*[made(FIG)] * 11))]
        self.check(deep, (("fig", "book"),), [("one", (at, 0), str(at + 1)) for at in range(11)])

    def test_each_ahead_of_those_in_it(self):
        book = [chapter("one", (1,), made(made(FIG, kind="fig"), FIG, kind="fig"))]
        self.check(book, (("fig", "own"),), [
            ("one", (), "1-1"), ("one", (0,), "1-2"), ("one", (0, 0), "1-3"), ("one", (1,), "1-4")])

    def test_first_numbers_of_two_figures(self):
        book = [chapter("one", (1,), FIG), chapter("two", (10,), FIG), chapter("three", (1, 10), FIG),
                chapter("four", (10, 1), FIG), chapter("five", (11,), FIG), chapter("six", (1, 1), FIG)]
        self.assertEqual(texts(book, (("fig", "chapter"),)), ["1-1", "10-1", "1-2", "10-2", "11-1", "1-3"])
        self.assertEqual(texts(book, (("fig", "own"),)), ["1-1", "10-1", "1.10-1", "10.1-1", "11-1", "1.1-1"])

    def test_chapters_of_which_nothing_is_left(self):
        book = [chapter("one", (1,), FIG), chapter("two", (2,), None), chapter("three", (3,), FIG)]
        self.check(book, (("fig", "book"),), [("one", (), "1"), ("three", (), "2")])
        self.check([book[1]], (("fig", "own"),), [])

    def test_one_part_in_two_chapters(self):
        book = [chapter("one", (1,), made(FIG)), chapter("two", (2,), made(FIG))]
        self.assertEqual(texts(book, (("fig", "book"),)), ["1", "2"])
        self.assertEqual(texts(book, (("fig", "chapter"),)), ["1-1", "2-1"])

    def test_chapters_in_another_order_than_their_numbers(self):
        book = [chapter("one", (2, 1), FIG), chapter("two", (3,), FIG), chapter("three", (2,), FIG),
                chapter("four", (1,), FIG)]
        self.check(book, (("fig", "chapter"),), [
            ("one", (), "2-1"), ("two", (), "3-1"), ("three", (), "2-2"), ("four", (), "1-1")])
        self.assertEqual(texts(book, (("fig", "book"),)), ["1", "2", "3", "4"])
        self.assertEqual(texts(book[::-1], (("fig", "chapter"),)), ["1-1", "2-1", "3-1", "2-2"])

    def test_paths_in_what_is_left(self):
        child = ("is", "who", ("child",))
        parts = [("a", "", element(element(kind="fig", when=child), element(kind="fig", name="x")))]
        plan = node("top", node("one", part="a"), node("two", part="a", when=child), node("three", part="a"))
        grown = book_of(FACETS_ONE, parts, plan, ("grown",))
        self.check(grown, (("fig", "chapter"),), [("one", (0,), "1-1"), ("three", (0,), "2-1")])
        self.assertEqual(texts(book_of(FACETS_ONE, parts, plan, ("child",)), (("fig", "chapter"),)),
                         ["1-1", "1-2", "2-1", "2-2", "3-1", "3-2"])

    def test_by_chance(self):
        chance = random.Random(307)
        many = 0
        for _ in range(250):
            book, counts = some_book(chance)[0], some_counts(chance)
            wanted = numbers_as_written(book, counts)
            self.check(book, counts, wanted)
            many += len(wanted)
        self.assertTrue(many > 2000, many)

    def test_by_names(self):
        for book in (self.BOOK, tuple(self.BOOK), []):
            check_call(self, numbers_of, [("book", book), ("counts", ALL_HOWS)])


if __name__ == "__main__":
    unittest.main()
