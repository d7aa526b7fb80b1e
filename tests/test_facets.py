"""Promise [4]: FACETS, SETTINGs and CASEs."""

import itertools
import random
import unittest

from sheafbooks.facets import common, is_case, is_facets, is_setting, settings_in, whole_case, without
from tests.common import (ALL_FACETS, FACETS_FOUR, FACETS_GREATEST, FACETS_ONE, FACETS_TWO, as_list_at_each_depth,
                          check_call, check_is, every_setting, odd_things)

TWO = ("x", "y")


def some_words(chance, words):
    return tuple(sorted(chance.sample(words, chance.randint(1, len(words)))))


def some_case(chance, facets):
    return tuple(some_words(chance, words) for _, words in facets)


def every_case(facets):
    """All cases of facets."""
    columns = []
    for _, words in facets:
        many = range(1, len(words) + 1)
        columns.append([some for size in many for some in itertools.combinations(words, size)])
    return list(itertools.product(*columns))


class IsFacets(unittest.TestCase):
    def check(self, thing, wanted):
        check_is(self, is_facets(thing), wanted, thing)

    def test_how_many(self):
        for facets in ALL_FACETS + (FACETS_GREATEST,):
            self.check(facets, True)
        self.check((), False)
        self.check(tuple((name, TWO) for name in "abcde"), False)
        self.check(tuple((name, TWO) for name in "abcd"), True)

    def test_how_many_words(self):
        for many, wanted in ((0, False), (1, False), (2, True), (3, True), (4, True), (5, False)):
            self.check((("f", tuple("abcde"[:many])),), wanted)
            self.check((("e", TWO), ("f", tuple("abcde"[:many]))), wanted)

    def test_names(self):
        for name, wanted in (("a", True), ("z", True), ("abcdefgh", True), ("", False), ("abcdefghi", False),
                             ("A", False), ("a1", False), ("a ", False), ("a-", False), ("\u00e4", False), ("a\n", False),
                             (None, False), (True, False), (1, False), (("a",), False), (["a"], False)):
            self.check(((name, TWO),), wanted)
        for name, wanted in (("b", True), ("bcdefghi", True), ("", False), ("bcdefghij", False), ("B", False),
                             ("b_", False), ("b%", False), (None, False), (False, False), (0, False), (("b",), False)):
            self.check((("f", ("a", name)),), wanted)
            self.check((("f", (name, "zz")),), wanted)

    def test_rising(self):
        self.check((("b", TWO), ("a", TWO)), False)
        self.check((("a", TWO), ("a", TWO)), False)
        self.check((("a", TWO), ("a", ("u", "v"))), False)
        self.check((("a", TWO), ("c", TWO), ("b", TWO)), False)
        self.check((("a", TWO), ("aa", TWO), ("b", TWO)), True)
        for words in (("y", "x"), ("x", "x"), ("x", "z", "y"), ("x", "y", "y"), ("y", "x", "z"), ("b", "aa")):
            self.check((("a", words),), False)
            self.check((("a", TWO), ("b", words)), False)

    def test_same_words_in_two_facets(self):
        self.check((("a", ("a", "b")), ("b", ("a", "b"))), True)

    def test_lists_for_tuples(self):
        for facets in ALL_FACETS:
            for thing in as_list_at_each_depth(facets):
                self.check(thing, False)

    def test_pairs(self):
        for pair in (("a",), ("a", TWO, TWO), (TWO, "a"), "ab", ("a", "xy"), ("a", None), ("a", 2), (), None, True, 3):
            self.check((pair,), False)
            self.check((("a", TWO), pair), False)

    def test_things_of_any_kind(self):
        for thing in odd_things():
            self.check(thing, False)

    def test_settings_and_cases_are_none(self):
        for facets in ALL_FACETS:
            self.check(whole_case(facets), False)
            self.check(every_setting(facets)[0], False)

    def test_by_names(self):
        self.assertIs(is_facets(thing=FACETS_TWO), True)
        self.assertIs(is_facets(thing=list(FACETS_TWO)), False)
        check_call(self, is_facets, [("thing", [["a", ["x"]]])])


class IsSetting(unittest.TestCase):
    def check(self, facets, thing, wanted):
        check_is(self, is_setting(facets, thing), wanted, thing)

    def test_every_setting(self):
        for facets in ALL_FACETS + (FACETS_GREATEST,):
            for setting in every_setting(facets):
                self.check(facets, setting, True)

    def test_words_of_another_facet(self):
        self.check(FACETS_TWO, ("child", "dutch"), False)
        self.check(FACETS_TWO, ("dutch", "latin"), False)
        self.check(FACETS_TWO, ("child", "child"), False)
        self.check(FACETS_TWO, ("dutch", "who"), False)
        self.check(FACETS_TWO, ("tongue", "who"), False)
        self.check(FACETS_TWO, ("dutc", "child"), False)

    def test_too_few_and_too_many(self):
        self.check(FACETS_TWO, ("dutch",), False)
        self.check(FACETS_TWO, ("dutch", "child", "child"), False)
        self.check(FACETS_TWO, ("dutch", "child", ""), False)
        self.check(FACETS_ONE, (), False)
        self.check(FACETS_ONE, "child", False)

    def test_other_kinds(self):
        self.check(FACETS_TWO, ["dutch", "child"], False)
        self.check(FACETS_TWO, (("dutch",), ("child",)), False)
        self.check(FACETS_TWO, ("dutch", ["child"]), False)
        self.check(FACETS_TWO, ("dutch", True), False)
        self.check(FACETS_TWO, ("dutch", None), False)
        self.check(FACETS_TWO, (0, 1), False)
        self.check(FACETS_TWO, ("dutch", ""), False)
        for facets in ALL_FACETS:
            for thing in odd_things():
                self.check(facets, thing, thing in every_setting(facets))
            self.check(facets, facets, False)
            self.check(facets, whole_case(facets), False)

    def test_by_names(self):
        self.assertIs(check_call(self, is_setting, [("facets", FACETS_TWO), ("thing", ("latin", "grown"))]), True)
        self.assertIs(check_call(self, is_setting, [("facets", FACETS_TWO), ("thing", ["latin", "grown"])]), False)


class IsCase(unittest.TestCase):
    def check(self, facets, thing, wanted):
        check_is(self, is_case(facets, thing), wanted, thing)

    def test_every_case(self):
        for facets in (FACETS_ONE, FACETS_TWO, FACETS_FOUR):
            for case in every_case(facets):
                self.check(facets, case, True)
        self.check(FACETS_GREATEST, whole_case(FACETS_GREATEST), True)

    def test_words(self):
        for words, wanted in ((("dutch",), True), (("dutch", "latin"), True), (("dutch", "english", "latin"), True),
                              ((), False), (("latin", "dutch"), False), (("dutch", "dutch"), False),
                              (("dutch", "latin", "english"), False), (("child",), False), (("dutch", "child"), False),
                              (("tongue",), False), (("dutch", ""), False), (("",), False), (["dutch"], False),
                              (("dutch", "english", "latin", "latin"), False), ("dutch", False), (None, False),
                              (True, False), (0, False), ((None,), False), ((True, False), False), ((1,), False),
                              ((("dutch",),), False), ((["dutch"],), False), (("dutch", None), False)):
            self.check(FACETS_TWO, (words, ("child",)), wanted)
            if wanted is False and words != ("child",):
                self.check(FACETS_TWO, (("dutch",), words), False)

    def test_how_many(self):
        self.check(FACETS_TWO, (("dutch",),), False)
        self.check(FACETS_TWO, (("dutch",), ("child",), ("child",)), False)
        self.check(FACETS_TWO, (("dutch",), ("child",), ()), False)
        self.check(FACETS_ONE, (), False)

    def test_lists_for_tuples(self):
        for facets in ALL_FACETS:
            for thing in as_list_at_each_depth(whole_case(facets)):
                self.check(facets, thing, False)

    def test_other_kinds(self):
        for facets in ALL_FACETS:
            for thing in odd_things():
                self.check(facets, thing, False)
            self.check(facets, facets, False)
            for setting in every_setting(facets):
                self.check(facets, setting, False)

    def test_by_names(self):
        case = (("latin",), ("child", "grown"))
        self.assertIs(check_call(self, is_case, [("facets", FACETS_TWO), ("thing", case)]), True)
        self.assertIs(check_call(self, is_case, [("facets", FACETS_TWO), ("thing", list(case))]), False)


class SettingsIn(unittest.TestCase):
    def test_plain(self):
        case = (("dutch", "latin"), ("child", "grown"))
        wanted = [("dutch", "child"), ("dutch", "grown"), ("latin", "child"), ("latin", "grown")]
        self.assertEqual(settings_in(case), wanted)
        self.assertEqual(settings_in((("dutch",), ("child",))), [("dutch", "child")])
        self.assertEqual(settings_in((("child", "grown"),)), [("child",), ("grown",)])

    def test_every_case(self):
        for case in every_case(FACETS_FOUR):
            told = settings_in(case)
            self.assertEqual(told, sorted(itertools.product(*case)))
            self.assertIs(type(told), list)

    def test_greatest(self):
        told = settings_in(whole_case(FACETS_GREATEST))
        self.assertEqual(len(told), 256)
        self.assertEqual(told, sorted(every_setting(FACETS_GREATEST)))
        self.assertTrue(all(one < other for one, other in zip(told, told[1:])))
        self.assertTrue(all(is_setting(FACETS_GREATEST, setting) for setting in told))

    def test_by_names(self):
        check_call(self, settings_in, [("case", whole_case(FACETS_TWO))])


class WholeCase(unittest.TestCase):
    def test_told(self):
        self.assertEqual(whole_case(FACETS_ONE), (("child", "grown"),))
        self.assertEqual(whole_case(FACETS_TWO), (("dutch", "english", "latin"), ("child", "grown")))
        for facets in ALL_FACETS + (FACETS_GREATEST,):
            self.assertIs(is_case(facets, whole_case(facets)), True)
            self.assertEqual(settings_in(whole_case(facets)), every_setting(facets))

    def test_by_names(self):
        check_call(self, whole_case, [("facets", FACETS_FOUR)])


class Common(unittest.TestCase):
    def check(self, facets, one, other):
        told = common(one, other)
        wanted = sorted(set(itertools.product(*one)) & set(itertools.product(*other)))
        if not wanted:
            self.assertIsNone(told)
        else:
            self.assertIs(is_case(facets, told), True)
            self.assertEqual(settings_in(told), wanted)
        self.assertEqual(common(other, one), told)

    def test_plain(self):
        one = (("dutch", "english"), ("child", "grown"))
        other = (("english", "latin"), ("grown",))
        self.assertEqual(common(one, other), (("english",), ("grown",)))
        self.assertEqual(common(one, one), one)
        self.assertEqual(common(one, (("dutch",), ("child",))), (("dutch",), ("child",)))
        self.assertIsNone(common(one, (("latin",), ("child", "grown"))))
        self.assertIsNone(common((("dutch",), ("child",)), (("dutch",), ("grown",))))

    def test_all_pairs(self):
        for facets in (FACETS_ONE, FACETS_TWO):
            for one, other in itertools.product(every_case(facets), repeat=2):
                self.check(facets, one, other)

    def test_great_ones(self):
        chance = random.Random(4)
        for _ in range(300):
            facets = chance.choice((FACETS_FOUR, FACETS_GREATEST))
            self.check(facets, some_case(chance, facets), some_case(chance, facets))

    def test_by_names(self):
        one = (("dutch", "english"), ("child",))
        other = (("english", "latin"), ("child", "grown"))
        self.assertEqual(check_call(self, common, [("one", one), ("other", other)]), (("english",), ("child",)))
        check_call(self, common, [("one", (("child",),)), ("other", (("grown",),))])


class Without(unittest.TestCase):
    def check(self, facets, one, other):
        told = without(one, other)
        self.assertIs(type(told), list)
        self.assertTrue(all(is_case(facets, case) for case in told))
        wanted = sorted(set(itertools.product(*one)) - set(itertools.product(*other)))
        # Sorted with those that are twice, so no setting stands in two cases.
        self.assertEqual(sorted(setting for case in told for setting in itertools.product(*case)), wanted)
        self.assertEqual(told, self.as_written(one, other))

    def as_written(self, one, other):
        """Word for word as [4] has it."""
        both = [sorted(set(words) & set(others)) for words, others in zip(one, other)]
        if [] in both:
            return [one]
        told = []
        for at in range(len(one)):
            rest = sorted(set(one[at]) - set(other[at]))
            if rest:
                ahead = [tuple(words) for words in both[:at]]
                told.append(tuple(ahead + [tuple(rest)] + [tuple(words) for words in one[at + 1:]]))
        return told

    def test_plain(self):
        whole = whole_case(FACETS_TWO)
        self.assertEqual(without(whole, (("english",), ("child",))),
                         [(("dutch", "latin"), ("child", "grown")), (("english",), ("grown",))])
        self.assertEqual(without(whole, (("dutch", "english", "latin"), ("child",))),
                         [(("dutch", "english", "latin"), ("grown",))])
        self.assertEqual(without(whole, whole), [])
        self.assertEqual(without((("dutch",), ("child",)), whole), [])
        one = (("dutch",), ("child", "grown"))
        other = (("english", "latin"), ("child", "grown"))
        self.assertEqual(without(one, other), [one])
        self.assertEqual(without(other, one), [other])

    def test_of_four(self):
        one = whole_case(FACETS_FOUR)
        other = (("old",), ("east", "west"), ("english",), ("grown",))
        self.assertEqual(without(one, other), [
            (("new",), ("east", "north", "south", "west"), ("dutch", "english", "latin"), ("child", "grown")),
            (("old",), ("north", "south"), ("dutch", "english", "latin"), ("child", "grown")),
            (("old",), ("east", "west"), ("dutch", "latin"), ("child", "grown")),
            (("old",), ("east", "west"), ("english",), ("child",)),
        ])

    def test_all_pairs(self):
        for facets in (FACETS_ONE, FACETS_TWO):
            for one, other in itertools.product(every_case(facets), repeat=2):
                self.check(facets, one, other)

    def test_great_ones(self):
        chance = random.Random(5)
        for _ in range(300):
            facets = chance.choice((FACETS_FOUR, FACETS_GREATEST))
            self.check(facets, some_case(chance, facets), some_case(chance, facets))

    def test_by_names(self):
        whole = whole_case(FACETS_TWO)
        check_call(self, without, [("one", whole), ("other", (("english",), ("child",)))])
        check_call(self, without, [("one", (("child",),)), ("other", (("grown",),))])
        check_call(self, without, [("one", (("child",),)), ("other", (("child",),))])


if __name__ == "__main__":
    unittest.main()
