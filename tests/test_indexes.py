"""Promise [16]: the index of a book, and where its entries stand."""

import random
import unittest

from sheafbooks.books import book_of
from sheafbooks.indexes import index_of, sees
from tests.common import FACETS_ONE, check_call, lists_in
from tests.samples import MAINS, SUBS, TEXT, element, made, node, some_book, things_left


def entry(main, sub=""):
    return ("entry", main, sub)


def chapter(name, number, *things):
    return (name, number, "a", "T", made(made(*things)))


BOOK = [
    chapter("one", (1,), entry("ink"), TEXT, entry("ink"), entry("ink", "red")),
    chapter("two", (2, 1), entry("ink", "red"), entry("paper", "old")),
    ("three", (10,), "a", "", None),
    chapter("four", (2,), entry("ink"), entry("Ink", "red"), entry("ink", "Red")),
]


class Index(unittest.TestCase):
    def check(self, book, wanted):
        for some in (list(book), tuple(book)):
            told = index_of(some)
            self.assertEqual(told, wanted)
            self.assertIs(type(told), list)
            for one in told:
                self.assertEqual([type(one), type(one[2])], [tuple, list])
            every = lists_in(told)
            self.assertEqual(len({id(one) for one in every}), len(told) + 1)

    def test_none(self):
        self.check([], [])
        self.check([chapter("one", (1,), TEXT)], [])
        self.check([BOOK[2]], [])

    def test_rows(self):
        self.check(BOOK, [("Ink", "", []), ("Ink", "red", ["2"]), ("ink", "", ["1", "2"]), ("ink", "Red", ["2"]),
                          ("ink", "red", ["1", "2.1"]), ("paper", "", []), ("paper", "old", ["2.1"])])

    def test_a_main_of_which_only_subs_have_entries(self):
        self.check([chapter("one", (1,), entry("a", "b"), entry("a", "c"))],
                   [("a", "", []), ("a", "b", ["1"]), ("a", "c", ["1"])])

    def test_a_main_alone(self):
        self.check([chapter("one", (3, 1), entry("a"))], [("a", "", ["3.1"])])

    def test_numbers_each_once_and_in_order(self):
        book = [chapter("one", (2,), entry("a"), entry("a")), chapter("two", (10,), entry("a")),
                chapter("three", (1, 2), entry("a"), entry("b"), entry("a"))]
        self.check(book, [("a", "", ["2", "10", "1.2"]), ("b", "", ["1.2"])])
        self.check(book[::-1], [("a", "", ["1.2", "10", "2"]), ("b", "", ["1.2"])])

    def test_capitals_as_if_small(self):
        mains = ["b", "B", "a", "A", "ab", "aB", "Ab", "AB", "z", "_", "[", "1", " ", "~", "Z", "^a"]
        told = [main for main, _, _ in index_of([chapter("one", (1,), *[entry(main) for main in mains])])]
        self.assertEqual(told, [" ", "1", "[", "^a", "_", "A", "a", "AB", "Ab", "aB", "ab", "B", "b", "Z", "z", "~"])

    def test_subs_likewise(self):
        subs = ["b", "B", "", "a", "Ab", "A", "_", "Z"]
        told = [sub for _, sub, _ in index_of([chapter("one", (1,), *[entry("m", sub) for sub in subs])])]
        self.assertEqual(told, ["", "_", "A", "a", "Ab", "B", "b", "Z"])

    def test_subs_stand_with_their_own_main(self):
        """By mains, of alike ones by themselves, ahead of all subs."""
        book = [chapter("one", (1,), entry("b", "a"), entry("B", "z"), entry("B", "b"), entry("b", "Y"))]
        self.check(book, [("B", "", []), ("B", "b", ["1"]), ("B", "z", ["1"]), ("b", "", []), ("b", "a", ["1"]),
                          ("b", "Y", ["1"])])

    def test_marks_are_not_exchanged(self):
        self.check([chapter("one", (1,), entry("<k>", "<l>"))], [("<k>", "", []), ("<k>", "<l>", ["1"])])

    def test_entries_at_any_depth(self):
        book = [("one", (1,), "a", "", made(made(made(entry("a"))), made(entry("b")))),
                ("two", (2,), "a", "", made(entry("a")))]
        self.check(book, [("a", "", ["1", "2"]), ("b", "", ["1"])])

    def test_only_what_is_left(self):
        parts = [("a", "", element(element(entry("ink"), when=("is", "who", ("child",))), element(entry("paper"))))]
        book = book_of(FACETS_ONE, parts, node("top", node("one", part="a"), node("two", part="a")), ("grown",))
        self.check(book, [("paper", "", ["1", "2"])])
        self.assertEqual(sees(book, "paper"), [("one", (0, 0)), ("two", (0, 0))])
        self.assertEqual(sees(book, "ink"), [])

    def test_by_chance(self):
        chance = random.Random(317)
        many = 0
        for _ in range(200):
            book = some_book(chance)[0]
            found = [(one, thing[1], thing[2]) for one, _, thing in things_left(book, "entry")]
            pairs = {(main, sub) for _, main, sub in found} | {(main, "") for _, main, _ in found}
            wanted = []
            for main, sub in sorted(pairs, key=lambda pair: [(text.lower(), text) for text in pair]):
                nodes = [one[0] for one, other, under in found if (other, under) == (main, sub)]
                numbers = [".".join(map(str, one[1])) for one in book if one[0] in nodes]
                wanted.append((main, sub, numbers))
            self.check(book, wanted)
            many += len(wanted)
        self.assertTrue(many > 1000, many)

    def test_by_names(self):
        for book in (BOOK, tuple(BOOK), []):
            check_call(self, index_of, [("book", book)])


class Sees(unittest.TestCase):
    def check(self, main, sub, wanted, book=BOOK):
        for some in (list(book), tuple(book)):
            told = sees(some, main, sub)
            self.assertEqual((told, type(told)), (wanted, list))

    def test_just_that_main_and_sub(self):
        self.check("ink", "", [("one", (0, 0)), ("one", (0, 2)), ("four", (0, 0))])
        self.check("ink", "red", [("one", (0, 3)), ("two", (0, 0))])
        self.check("Ink", "red", [("four", (0, 1))])
        self.check("ink", "Red", [("four", (0, 2))])
        self.check("paper", "old", [("two", (0, 1))])

    def test_sub_left_out(self):
        self.assertEqual(sees(BOOK, "ink"), sees(BOOK, "ink", ""))
        self.assertEqual(sees(book=BOOK, main="ink"), sees(BOOK, "ink", ""))
        self.assertEqual(sees(BOOK, "paper"), [])

    def test_none(self):
        for main, sub in (("paper", ""), ("Ink", ""), ("gone", ""), ("ink", "old"), ("INK", "red"), ("in", ""), ("", "")):
            self.check(main, sub, [])
        self.check("ink", "", [], [])

    def test_by_the_list_then_paths(self):
        many = [chapter("one", (2,), *[entry("a")] * 11), ("two", (1,), "a", "", made(made(made(entry("a"))), made(entry("a"))))]
        ahead = [("one", (0, at)) for at in range(11)]
        behind = [("two", (0, 0, 0)), ("two", (1, 0))]
        self.check("a", "", ahead + behind, many)
        self.check("a", "", behind + ahead, many[::-1])

    def test_by_chance(self):
        chance = random.Random(331)
        many = 0
        for _ in range(100):
            book = some_book(chance)[0]
            for main in MAINS:
                for sub in set(SUBS):
                    wanted = [(one[0], path) for one, path, thing in things_left(book, "entry")
                              if thing == ("entry", main, sub)]
                    many += len(wanted)
                    self.check(main, sub, wanted, book)
        self.assertTrue(many > 500, many)

    def test_by_names(self):
        for main, sub in (("ink", ""), ("ink", "red"), ("gone", "x")):
            check_call(self, sees, [("book", BOOK), ("main", main), ("sub", sub)])
        check_call(self, sees, [("book", BOOK), ("main", "ink")])


if __name__ == "__main__":
    unittest.main()
