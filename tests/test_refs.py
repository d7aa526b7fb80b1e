"""Promise [15]: what refs mean, their texts, and those that are lost."""

import random
import unittest

from sheafbooks.books import book_of
from sheafbooks.refs import lost_refs, meant_by, ref_text
from tests.common import FACETS_ONE, check_call
from tests.samples import (ELEMENT_NAMES, ENTRY, PART_NAMES, TEXT, element, made, meant_as_written, node,
                           ref_as_written, some_book, some_counts, things_left)

COUNTS = (("fig", "own"), ("sec", "book"))
X = made(TEXT, kind="fig", home=("b", "x"))
Y = made(kind="note", home=("a", "y"))
BOOK = [
    ("one", (2,), "a", "On ink", made(Y, made(X, kind="note"), kind="sec", home=("a", "root"))),
    ("two", (2, 1), "b", "On paper", made(X, Y, kind="sec")),
    ("three", (1,), "b", "", None),
    ("four", (3,), "c", "Again", made(made(kind="fig", home=("c", "z")))),
    ("five", (4,), "a", "Once more", made(kind="sec", home=("a", "root"))),
]


def ref(part, name="", how="number"):
    return ("ref", part, name, how)


class Meant(unittest.TestCase):
    def check(self, book, part, name, wanted):
        for some in (list(book), tuple(book)):
            told = meant_by(some, part, name)
            self.assertEqual(told, wanted)
            if told is not None:
                self.assertEqual([type(told), type(told[1])], [tuple, tuple])

    def test_a_bare_name(self):
        self.check(BOOK, "a", "", ("one", ()))
        self.check(BOOK, "b", "", ("two", ()))
        self.check(BOOK, "c", "", ("four", ()))
        self.check(BOOK[1:], "a", "", ("five", ()))

    def test_a_bare_name_of_a_chapter_of_which_nothing_is_left(self):
        self.check(BOOK[2:], "b", "", ("three", ()))
        self.check([BOOK[2]], "b", "x", None)

    def test_an_element_by_its_home_put_in_elsewhere_first(self):
        self.check(BOOK, "b", "x", ("one", (1, 0)))
        self.check(BOOK[1:], "b", "x", ("two", (0,)))
        self.check(BOOK, "a", "y", ("one", (0,)))
        self.check(BOOK[1:], "a", "y", ("two", (1,)))

    def test_a_root_by_its_name(self):
        self.check(BOOK, "a", "root", ("one", ()))
        self.check(BOOK[1:], "a", "root", ("five", ()))

    def test_the_first_goes_by_the_list_not_by_numbers(self):
        self.check(BOOK[::-1], "a", "", ("five", ()))
        self.check(BOOK[::-1], "b", "", ("three", ()))
        self.check(BOOK[::-1], "b", "x", ("two", (0,)))

    def test_the_first_by_paths(self):
        x = made(kind="fig", home=("b", "x"))
        self.check([("one", (1,), "a", "", made(made(), made(made(x)), x))], "b", "x", ("one", (1, 0, 0)))
        self.check([("one", (1,), "a", "", made(*[made()] * 9, made(), x, x))], "b", "x", ("one", (10,)))
        self.check([("one", (1,), "a", "", made(*[made()] * 2, x, *[made()] * 8, x))], "b", "x", ("one", (2,)))

    def test_none(self):
        for part, name in (("a", "x"), ("b", "y"), ("gone", ""), ("gone", "x"), ("c", "c"), ("a", "a"), ("c", "x")):
            self.check(BOOK, part, name, None)
        self.check([], "a", "", None)

    def test_elements_without_names_are_meant_by_none(self):
        self.check([("one", (1,), "a", "", made(made()))], "b", "", None)

    def test_by_names(self):
        for part, name in (("a", ""), ("b", "x"), ("gone", "x")):
            check_call(self, meant_by, [("book", BOOK), ("part", part), ("name", name)])


class Texts(unittest.TestCase):
    def check(self, thing, wanted, counts=COUNTS, book=BOOK):
        for some in (list(book), tuple(book)):
            self.assertEqual(ref_text(some, counts, thing), wanted)

    def test_number_of_a_counted_element(self):
        self.check(ref("b", "x"), "2-1")
        self.check(ref("c", "z"), "3-1")
        self.check(ref("b", "x"), "1", (("fig", "book"),))
        self.check(ref("b", "x"), "1", (("fig", "book"),), BOOK[1:])
        self.check(ref("b", "x"), "2-1", (("fig", "chapter"),), BOOK[1:])
        self.check(ref("b", "x"), "2.1-1", COUNTS, BOOK[1:])

    def test_number_of_an_element_that_is_not_counted(self):
        self.check(ref("a", "y"), "2")
        self.check(ref("a", "y"), "2.1", COUNTS, BOOK[1:])
        self.check(ref("b", "x"), "2", ())
        self.check(ref("a", "root"), "2", ())

    def test_a_bare_name_though_its_root_be_counted(self):
        self.check(ref("a"), "2")
        self.check(ref("a", "root"), "1")
        self.check(ref("b"), "2.1")
        self.check(ref("a"), "4", COUNTS, BOOK[1:])
        self.check(ref("a", "root"), "3", COUNTS, BOOK[1:])

    def test_title(self):
        self.check(ref("a", "", "title"), "On ink")
        self.check(ref("b", "", "title"), "On paper")
        self.check(ref("b", "x", "title"), "On ink")
        self.check(ref("a", "y", "title"), "On paper", COUNTS, BOOK[1:])
        self.check(ref("b", "", "title"), "", COUNTS, BOOK[2:])

    def test_none(self):
        for how in ("title", "number"):
            for part, name in (("gone", ""), ("a", "x"), ("gone", "x")):
                self.check(ref(part, name, how), None)
            self.check(ref("a", "", how), None, COUNTS, [])

    def test_by_chance(self):
        chance = random.Random(311)
        told = {True: 0, False: 0}
        for _ in range(80):
            book, counts = some_book(chance)[0], some_counts(chance)
            for part in PART_NAMES + ("gone",):
                for name in ELEMENT_NAMES + ("",):
                    self.assertEqual(meant_by(book, part, name), meant_as_written(book, part, name))
                    for how in ("number", "title"):
                        wanted = ref_as_written(book, counts, ref(part, name, how))
                        told[wanted is None] += 1
                        self.assertEqual(ref_text(book, counts, ref(part, name, how)), wanted)
        self.assertTrue(min(told.values()) > 200, told)

    def test_by_names(self):
        for thing in (ref("a"), ref("b", "x"), ref("a", "", "title"), ref("gone")):
            check_call(self, ref_text, [("book", BOOK), ("counts", COUNTS), ("thing", thing)])


class Lost(unittest.TestCase):
    def check(self, book, wanted):
        for some in (list(book), tuple(book)):
            told = lost_refs(some)
            self.assertEqual(told, wanted)
            self.assertIs(type(told), list)

    def test_none(self):
        self.check([], [])
        self.check(BOOK, [])
        self.check([("one", (1,), "a", "", made(made(ref("a"), ref("a", "x"), home=("a", "x"))))], [])

    def test_node_path_and_thing(self):
        gone, lost = ref("gone"), ref("a", "lost", "title")
        book = [("one", (2,), "a", "", made(made(TEXT, gone), made(ENTRY, lost, ref("a")))),
                ("two", (1,), "b", "", made(lost))]
        self.check(book, [("one", (0, 1), gone), ("one", (1, 1), lost), ("two", (0,), lost)])
        self.check(book[::-1], [("two", (0,), lost), ("one", (0, 1), gone), ("one", (1, 1), lost)])
        self.check(book[1:], [("two", (0,), lost)])

    def test_the_same_twice(self):
        gone = ref("gone", "x")
        book = [("one", (1,), "a", "", made(gone, TEXT, gone)), ("two", (2,), "a", "", made(made(gone)))]
        self.check(book, [("one", (0,), gone), ("one", (2,), gone), ("two", (0, 0), gone)])

    def test_ten_behind_nine(self):
        gone = ref("gone")
        self.check([("one", (1,), "a", "", made(*[gone] * 12))], [("one", (at,), gone) for at in range(12)])

    def test_one_way_of_two_is_lost(self):
        """A bare name needs a chapter of the part, a name the element: neither stands in for the other."""
        book = [("one", (1,), "a", "", made(made(home=("b", "x")), made(ref("b"), ref("b", "x"), ref("a", "y"))))]
        self.check(book, [("one", (1, 0), ref("b")), ("one", (1, 2), ref("a", "y"))])

    def test_what_is_not_left_is_not_there(self):
        child = ("is", "who", ("child",))
        parts = [("a", "", element(element(name="x", when=child), element(ref("a", "x"), ref("b")))),
                 ("b", "", element(element(ref("gone"), when=child)))]
        plan = node("top", node("one", part="a"), node("two", part="b", when=child))
        self.check(book_of(FACETS_ONE, parts, plan, ("grown",)),
                   [("one", (0, 0), ref("a", "x")), ("one", (0, 1), ref("b"))])
        self.check(book_of(FACETS_ONE, parts, plan, ("child",)), [("two", (0, 0), ref("gone"))])

    def test_by_chance(self):
        chance = random.Random(313)
        many = 0
        for _ in range(150):
            book = some_book(chance)[0]
            wanted = [(chapter[0], path, thing) for chapter, path, thing in things_left(book, "ref")
                      if meant_as_written(book, thing[1], thing[2]) is None]
            many += len(wanted)
            self.check(book, wanted)
        self.assertTrue(many > 300, many)

    def test_by_names(self):
        for book in (BOOK, [("one", (1,), "a", "", made(ref("gone"), ref("gone")))], []):
            check_call(self, lost_refs, [("book", book)])


if __name__ == "__main__":
    unittest.main()
