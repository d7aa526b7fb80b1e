"""Promise [6]: MODELs and the rows of kinds that fit them."""

import itertools
import random
import re
import unittest

from sheafbooks.models import first_bad, fits, is_model, kinds_of, unlike_row
from tests.common import as_list_at_each_depth, check_call, check_is, nested, odd_things
from tests.samples import parts_of, rows_of, some_model

NONE = ("none",)
A, B, C, D = [("kind", kind) for kind in "abcd"]


def row(*models):
    """Nested to the left."""
    told = models[0]
    for model in models[1:]:
        told = ("row", told, model)
    return told


def either(*models):
    told = models[0]
    for model in models[1:]:
        told = ("either", told, model)
    return told


def many(model):
    return ("many", model)


def as_pattern(model):
    """A regular expression of kinds of one letter."""
    word, *rest = model
    inner = [rest[0]] if word == "kind" else [as_pattern(other) for other in rest]
    return {"none": "", "kind": "".join(map(str, inner)), "row": "(?:" + "".join(map(str, inner)) + ")",
            "either": "(?:" + "|".join(map(str, inner)) + ")", "many": "(?:" + "".join(map(str, inner)) + ")*"}[word]


class IsModel(unittest.TestCase):
    def check(self, thing, wanted):
        check_is(self, is_model(thing), wanted, thing)

    def test_each_word(self):
        for model in (NONE, A, row(A, B), either(A, NONE), many(A), many(NONE), many(many(A)), row(NONE, NONE)):
            self.check(model, True)

    def test_kinds(self):
        for kind in ("text", "ref", "entry", "put", "none", "kind", "row", "a", "z", "abcdefgh"):
            self.check(("kind", kind), True)
        for kind in ("", "abcdefghi", "A", "a1", "a b", "a\n", None, True, 1, ("a",), ["a"], A):
            self.check(("kind", kind), False)
            self.check(many(("kind", kind)), False)
            self.check(("row", A, ("kind", kind)), False)

    def test_how_many_behind_the_word(self):
        for thing in (("none", "none"), ("none", NONE), ("kind",), ("kind", "a", "b"), ("row",), ("row", A),
                      ("row", A, B, C), ("either",), ("either", A), ("either", A, B, C), ("many",), ("many", A, B), (),
                      ("always",), ("not", A), ("both", A, B), ("many", "a"), ("row", "a", "b"), "none", ("None",)):
            self.check(thing, False)

    def test_how_many_parts(self):
        four = row(row(A, B), either(C, D))
        self.assertEqual(parts_of(four), 7)
        eleven = row(four, either(A, B))
        self.assertEqual(parts_of(eleven), 11)
        twelve = either(row(four, row(A, B)), NONE)
        self.assertEqual([parts_of(model) for model in (many(eleven), twelve)], [12, 13])
        self.check(eleven, True)
        self.check(many(eleven), True)
        self.check(twelve, False)
        self.check(row(four, row(many(A), B)), True)
        self.check(row(four, row(many(A), many(B))), False)

    def test_how_deep(self):
        for wrap in (many, lambda model: ("row", model, A), lambda model: ("either", A, model)):
            for times, wanted in ((0, True), (1, True), (3, True), (4, True), (5, False), (6, False), (19, False)):
                self.check(nested(NONE, wrap, times), wanted)

    def test_by_chance_as_counted(self):
        chance = random.Random(53)
        told = {True: 0, False: 0}
        for _ in range(1000):
            model = some_model(chance, "abc", 5)
            wanted = parts_of(model) <= 12
            told[wanted] += 1
            self.check(model, wanted)
        self.assertTrue(min(told.values()) > 50)

    def test_lists_for_tuples(self):
        for model in (NONE, A, many(A), row(A, B), either(many(row(A, B)), NONE)):
            for thing in as_list_at_each_depth(model):
                self.check(thing, False)

    def test_things_of_any_kind(self):
        for inner in odd_things():
            self.check(inner, False)
            for thing in (("many", inner), ("row", inner, A), ("row", A, inner), ("either", NONE, inner), (inner,),
                          (inner, A), (inner, A, B)):
                self.check(thing, thing == NONE)

    def test_by_names(self):
        self.assertIs(check_call(self, is_model, [("thing", many(A))]), True)
        self.assertIs(check_call(self, is_model, [("thing", list(many(A)))]), False)


class KindsOf(unittest.TestCase):
    def test_told(self):
        self.assertEqual(kinds_of(NONE), [])
        self.assertEqual(kinds_of(many(either(NONE, row(NONE, NONE)))), [])
        self.assertEqual(kinds_of(A), ["a"])
        self.assertEqual(kinds_of(row(B, A)), ["a", "b"])
        self.assertEqual(kinds_of(many(either(row(C, A), row(B, row(A, C))))), ["a", "b", "c"])
        self.assertEqual(kinds_of(row(("kind", "text"), ("kind", "put"))), ["put", "text"])
        self.assertEqual(kinds_of(row(("kind", "b"), row(("kind", "aa"), ("kind", "a")))), ["a", "aa", "b"])

    def test_by_names(self):
        check_call(self, kinds_of, [("model", row(B, A))])
        check_call(self, kinds_of, [("model", NONE)])


class Fits(unittest.TestCase):
    def check(self, model, kinds, wanted):
        check_is(self, fits(model, list(kinds)), wanted, (model, kinds))
        check_is(self, fits(model, tuple(kinds)), wanted, (model, kinds))

    def test_each_word(self):
        self.check(NONE, "", True)
        self.check(NONE, "a", False)
        self.check(A, "a", True)
        for kinds in ("", "b", "aa", "ab"):
            self.check(A, kinds, False)
        self.check(row(A, B), "ab", True)
        for kinds in ("", "a", "b", "ba", "abb", "aab"):
            self.check(row(A, B), kinds, False)
        for kinds, wanted in (("a", True), ("b", True), ("", False), ("ab", False), ("c", False)):
            self.check(either(A, B), kinds, wanted)
        for kinds, wanted in (("", True), ("a", True), ("aaaa", True), ("ab", False), ("b", False), ("aba", False)):
            self.check(many(A), kinds, wanted)

    def test_none_within_others(self):
        self.check(row(NONE, A), "a", True)
        self.check(row(A, NONE), "a", True)
        self.check(row(NONE, NONE), "", True)
        self.check(row(NONE, NONE), "a", False)
        self.check(either(NONE, A), "", True)
        self.check(row(either(A, NONE), either(B, NONE)), "b", True)
        self.check(row(either(A, NONE), row(NONE, either(B, NONE))), "ab", True)
        self.check(row(either(A, NONE), either(B, NONE)), "ba", False)

    def test_many_of_many_and_none(self):
        for model in (many(many(A)), many(many(many(A))), many(either(NONE, A)), many(row(many(A), many(A)))):
            for kinds, wanted in (("", True), ("a", True), ("aaa", True), ("b", False), ("aab", False)):
                self.check(model, kinds, wanted)
        for model in (many(NONE), many(many(NONE)), row(many(NONE), NONE)):
            self.check(model, "", True)
            self.check(model, "a", False)

    def test_several_ways_through(self):
        model = row(many(either(A, row(A, B))), row(A, A))
        for kinds, wanted in (("aa", True), ("aaaa", True), ("abaa", True), ("ab", False), ("abab", False)):
            self.check(model, kinds, wanted)

    def test_against_regular_expressions(self):
        chance = random.Random(59)
        for _ in range(250):
            model = some_model(chance, "abc", 5)
            pattern = re.compile(as_pattern(model))
            rows = ["".join(chance.choice("abc") for _ in range(chance.randint(0, 7))) for _ in range(25)]
            for kinds in rows:
                self.check(model, kinds, pattern.fullmatch(kinds) is not None)

    def test_every_short_row(self):
        chance = random.Random(61)
        for _ in range(120):
            model = some_model(chance, "ab", 5)
            wanted = rows_of(model, 5)
            for size in range(6):
                for kinds in itertools.product("abc", repeat=size):
                    self.check(model, kinds, kinds in wanted)

    def test_thirty_kinds(self):
        self.check(many(A), "a" * 30, True)
        self.check(many(A), "a" * 29 + "b", False)
        self.check(many(row(A, row(A, B))), "aab" * 10, True)
        self.check(many(row(A, row(A, B))), "aab" * 9 + "aba", False)
        self.check(row(many(either(A, B)), row(A, either(A, B))), "ba" * 15, False)
        self.check(row(many(either(A, B)), row(A, either(A, B))), "ab" * 15, True)

    def test_whole_kinds(self):
        self.check(("kind", "text"), ["text"], True)
        self.check(("kind", "text"), list("text"), False)
        self.check(row(("kind", "a"), ("kind", "b")), ["ab"], False)

    def test_by_names(self):
        for kinds in (["a", "b"], ["a"], [], ("a", "b")):
            check_call(self, fits, [("model", row(A, B)), ("kinds", kinds)])


class FirstBad(unittest.TestCase):
    def check(self, model, kinds, wanted):
        for told in (first_bad(model, list(kinds)), first_bad(model, tuple(kinds))):
            self.assertEqual((told, type(told)), (wanted, type(wanted)), (model, kinds))

    def test_plain(self):
        model = row(A, row(B, C))
        for kinds, wanted in (("abc", None), ("", 0), ("a", 1), ("ab", 2), ("abca", 3), ("b", 0), ("acc", 1), ("aba", 2),
                              ("abcabc", 3), ("bbb", 0), ("abb", 2), ("d", 0)):
            self.check(model, kinds, wanted)

    def test_none(self):
        self.check(NONE, "", None)
        self.check(NONE, "a", 0)
        self.check(NONE, "aaa", 0)
        self.check(many(NONE), "", None)
        self.check(many(NONE), "ab", 0)
        self.check(row(NONE, A), "", 0)
        self.check(row(NONE, A), "aa", 1)

    def test_many(self):
        self.check(many(row(A, B)), "abab", None)
        self.check(many(row(A, B)), "aba", 3)
        self.check(many(row(A, B)), "abb", 2)
        self.check(many(row(A, B)), "ababaa", 5)
        self.check(many(many(A)), "aab", 2)

    def test_only_one_of_two_ways_goes_on(self):
        model = either(row(A, B), row(A, row(A, C)))
        for kinds, wanted in (("a", 1), ("ab", None), ("aa", 2), ("aab", 2), ("aac", None), ("abc", 2)):
            self.check(model, kinds, wanted)

    def test_thirty_kinds(self):
        model = many(row(A, B))
        self.check(model, "ab" * 15, None)
        self.check(model, "ab" * 14 + "aa", 29)
        self.check(model, "b" + "ab" * 14, 0)
        self.check(model, "ab" * 7 + "b" + "ab" * 7 + "a", 14)
        self.check(row(model, C), "ab" * 15, 30)

    def test_as_written(self):
        """By all rows that fit, up to so many more kinds that a beginning always comes to an end."""
        chance = random.Random(67)
        for _ in range(120):
            model = some_model(chance, "ab", 4)
            begun = set()
            for one in rows_of(model, 10):
                begun |= {one[:size] for size in range(len(one) + 1)}
            fitting = rows_of(model, 4)
            for size in range(4):
                for kinds in itertools.product("abc", repeat=size):
                    bad = [at for at in range(size) if kinds[:at + 1] not in begun]
                    wanted = None if kinds in fitting else bad[0] if bad else size
                    self.check(model, kinds, wanted)

    def test_none_just_where_it_fits(self):
        chance = random.Random(71)
        for _ in range(200):
            model = some_model(chance, "abc", 5)
            kinds = [chance.choice("abc") for _ in range(chance.randint(0, 6))]
            self.assertEqual(first_bad(model, kinds) is None, fits(model, kinds))

    def test_by_names(self):
        for kinds in (["a", "b"], ["a"], [], ("b", "b")):
            check_call(self, first_bad, [("model", row(A, B)), ("kinds", kinds)])


class UnlikeRow(unittest.TestCase):
    def check(self, one, other, wanted):
        for told in (unlike_row(one, other), unlike_row(other, one)):
            self.assertEqual((told, type(told)), (wanted, type(wanted)), (one, other))

    def test_the_same_rows_written_otherwise(self):
        for one, other in ((A, A), (NONE, many(NONE)), (A, row(NONE, A)), (A, either(A, A)), (many(A), many(many(A))),
                           (row(A, row(B, C)), row(row(A, B), C)), (either(A, B), either(B, A)),
                           (many(A), either(NONE, row(A, many(A)))), (row(many(A), A), row(A, many(A))),
                           (many(either(A, B)), many(row(many(A), many(B)))),
                           (many(either(A, B)), row(many(A), many(row(B, many(A))))),
                           (row(A, either(B, C)), either(row(A, B), row(A, C))),
                           (row(many(row(A, B)), A), row(A, many(row(B, A)))),
                           (row(many(row(A, A)), many(row(row(A, A), A))), either(NONE, row(row(A, A), many(A))))):
            self.check(one, other, None)

    def test_plain(self):
        self.check(NONE, A, [])
        self.check(NONE, many(A), ["a"])
        self.check(A, B, ["a"])
        self.check(B, either(C, B), ["c"])
        self.check(row(A, B), row(A, C), ["a", "b"])
        self.check(row(B, B), row(A, C), ["a", "c"])
        self.check(many(A), either(NONE, A), ["a", "a"])
        self.check(many(row(A, A)), many(A), ["a"])
        self.check(("kind", "text"), ("kind", "ref"), ["ref"])
        self.check(many(either(A, B)), many(A), ["b"])
        self.check(either(row(B, A), NONE), either(row(A, C), NONE), ["a", "c"])

    def test_short_ahead_of_least(self):
        self.check(either(row(A, A), C), either(B, B), ["b"])
        self.check(either(row(A, A), C), row(A, A), ["c"])

    def test_as_written(self):
        chance = random.Random(73)
        told = {True: 0, False: 0}
        for _ in range(400):
            one = some_model(chance, "ab", chance.randint(1, 5))
            other = some_model(chance, "ab", chance.randint(1, 5))
            unlike = sorted(rows_of(one, 6) ^ rows_of(other, 6), key=lambda kinds: (len(kinds), kinds))
            answer = unlike_row(one, other)
            told[answer is None] += 1
            if unlike:
                self.check(one, other, list(unlike[0]))
            elif answer is not None:
                self.assertTrue(len(answer) > 6)
                self.assertNotEqual(fits(one, answer), fits(other, answer))
        self.assertTrue(min(told.values()) > 5)

    def test_long_rows(self):
        five = row(A, A, A, A, A)
        self.check(many(five), either(NONE, five), ["a"] * 10)
        self.check(row(many(row(A, A, A, A)), A), either(A, row(A, A, A, A, A)), ["a"] * 9)

    def test_rows_longer_than_either_has_parts(self):
        """All rows of one kind but those of 210, 420 .. ones, written as none of 2, 3, 5 and 7 going into how many
        there are: beyond the bounds of a MODEL, and told all the same."""
        columns = []
        for prime in (2, 3, 5, 7):
            some = row(*[A] * (prime - 1)) if prime == 2 else A
            for _ in range(prime - 2):
                some = row(A, either(NONE, some))
            columns.append(row(some, many(row(*[A] * prime))))
        most = either(NONE, *columns)
        self.assertTrue(parts_of(most) < 210)
        self.check(most, many(A), ["a"] * 210)

    def test_by_names(self):
        check_call(self, unlike_row, [("one", row(A, B)), ("other", row(A, C))])
        check_call(self, unlike_row, [("one", A), ("other", NONE)])
        check_call(self, unlike_row, [("one", A), ("other", either(A, A))])


if __name__ == "__main__":
    unittest.main()
