"""Promise [5], whens.py: WHENs, where they hold, and what is told of them in a case."""

import itertools
import random
import unittest

from sheafbooks.facets import whole_case
from sheafbooks.whens import holds, is_when, told_in
from tests.common import (ALL_FACETS, FACETS_FOUR, FACETS_GREATEST, FACETS_ONE, FACETS_TWO, as_list_at_each_depth,
                          check_call, check_is, every_setting, nested, odd_things)
from tests.samples import ALWAYS, parts_of, settings_where, some_when

CHILD = ("is", "who", ("child",))
GROWN = ("is", "who", ("grown",))
DUTCH = ("is", "tongue", ("dutch",))
NOT_LATIN = ("is", "tongue", ("dutch", "english"))


def both(*whens):
    """Nested to the right: each one more is one deeper."""
    told = whens[-1]
    for when in reversed(whens[:-1]):
        told = ("both", when, told)
    return told


class IsWhen(unittest.TestCase):
    def check(self, thing, wanted, facets=FACETS_TWO):
        check_is(self, is_when(facets, thing), wanted, thing)

    def test_each_word(self):
        for when in (ALWAYS, CHILD, DUTCH, NOT_LATIN, ("not", CHILD), ("not", ALWAYS), ("both", CHILD, DUTCH),
                     ("either", ALWAYS, CHILD), ("either", CHILD, CHILD)):
            self.check(when, True)

    def test_how_many_behind_the_word(self):
        for thing in (("always", "always"), ("always", ALWAYS), ("is",), ("is", "who"), CHILD + ("child",), ("not",),
                      ("not", CHILD, CHILD), ("both",), ("both", CHILD), ("both", CHILD, CHILD, CHILD), ("either",),
                      ("either", CHILD), ("either", CHILD, CHILD, CHILD), (), ("",), ("never",), ("is", "who", "child"),
                      ("none",), ("many", ALWAYS), ("row", ALWAYS, ALWAYS), ("Always",), "always"):
            self.check(thing, False)

    def test_is(self):
        for words, wanted in ((("dutch",), True), (("dutch", "latin"), True), (("dutch", "english", "latin"), True),
                              ((), False), (("latin", "dutch"), False), (("dutch", "dutch"), False),
                              (("child",), False), (("dutch", "child"), False), ((None,), False), ((True,), False),
                              (("dutch", 1), False), ("dutch", False), (["dutch"], False), (None, False), (2, False),
                              (("dutch", "english", "latin", "latin"), False), (("",), False), (("tongue",), False)):
            self.check(("is", "tongue", words), wanted)
            self.check(("not", ("is", "tongue", words)), wanted)
            self.check(("either", ALWAYS, ("is", "tongue", words)), wanted)
        for facet in ("place", "", "dutch", None, True, 0, ("tongue",), ["tongue"], ()):
            self.check(("is", facet, ("dutch",)), False)

    def test_words_of_another_facet(self):
        self.check(("is", "who", ("dutch",)), False)
        self.check(("is", "tongue", ("dutch",)), False, FACETS_ONE)
        shared = (("a", ("x", "y")), ("b", ("y", "z")))
        self.check(("is", "a", ("x", "y")), True, shared)
        self.check(("is", "b", ("x", "y")), False, shared)
        self.check(("is", "b", ("y",)), True, shared)

    def test_how_many_parts(self):
        three = ("both", CHILD, DUTCH)
        seven = ("either", three, three)
        eight = ("not", seven)
        nine = ("either", seven, ALWAYS)
        self.assertEqual([parts_of(when) for when in (seven, eight, nine)], [7, 8, 9])
        self.check(seven, True)
        self.check(eight, True)
        self.check(nine, False)
        wide = ("either", ("both", ("not", CHILD), DUTCH), ("both", CHILD, DUTCH))
        self.assertEqual(parts_of(wide), 8)
        self.check(wide, True)
        self.check(("either", ("both", ("not", CHILD), DUTCH), ("both", CHILD, ("not", DUTCH))), False)

    def test_how_deep(self):
        for word in ("not", "left", "right"):
            wrap = {"not": lambda when: ("not", when), "left": lambda when: ("both", when, CHILD),
                    "right": lambda when: ("either", CHILD, when)}[word]
            for times, wanted in ((0, True), (1, True), (2, True), (3, True), (4, False), (5, False), (19, False)):
                self.check(nested(ALWAYS, wrap, times), wanted)

    def test_by_chance_as_counted(self):
        chance = random.Random(7)
        told = {True: 0, False: 0}
        for _ in range(600):
            facets = chance.choice(ALL_FACETS)
            when = some_when(chance, facets, 4)
            wanted = parts_of(when) <= 8
            told[wanted] += 1
            self.check(when, wanted, facets)
        self.assertTrue(min(told.values()) > 50)

    def test_lists_for_tuples(self):
        for when in (ALWAYS, CHILD, ("not", NOT_LATIN), ("both", ("not", CHILD), ("either", DUTCH, ALWAYS))):
            self.check(when, True)
            for thing in as_list_at_each_depth(when):
                self.check(thing, False)

    def test_things_within(self):
        for inner in odd_things():
            for thing in (("not", inner), ("both", inner, ALWAYS), ("either", ALWAYS, inner), ("is", "who", inner),
                          ("is", inner, ("child",)), (inner,), (inner, ALWAYS), (inner, "who", ("child",))):
                self.check(thing, thing == ALWAYS)

    def test_things_of_any_kind(self):
        for facets in ALL_FACETS:
            for thing in odd_things():
                self.check(thing, False, facets)
            self.check(facets, False, facets)
            self.check(whole_case(facets), False, facets)

    def test_greatest_facets(self):
        self.check(("is", "d", ("e", "f", "g", "h")), True, FACETS_GREATEST)

    def test_by_names(self):
        self.assertIs(check_call(self, is_when, [("facets", FACETS_TWO), ("thing", ("not", CHILD))]), True)
        self.assertIs(check_call(self, is_when, [("facets", FACETS_TWO), ("thing", ["not", CHILD])]), False)


class Holds(unittest.TestCase):
    def check(self, facets, when):
        wanted = settings_where(facets, when)
        for setting in every_setting(facets):
            check_is(self, holds(facets, when, setting), setting in wanted, (when, setting))

    def test_plain(self):
        self.assertIs(holds(FACETS_TWO, ALWAYS, ("dutch", "child")), True)
        self.assertIs(holds(FACETS_TWO, CHILD, ("dutch", "child")), True)
        self.assertIs(holds(FACETS_TWO, CHILD, ("dutch", "grown")), False)
        self.assertIs(holds(FACETS_TWO, NOT_LATIN, ("english", "grown")), True)
        self.assertIs(holds(FACETS_TWO, NOT_LATIN, ("latin", "grown")), False)
        self.assertIs(holds(FACETS_TWO, ("not", CHILD), ("latin", "grown")), True)
        self.assertIs(holds(FACETS_TWO, ("not", ALWAYS), ("latin", "grown")), False)
        for word, wanted in (("both", (True, False, False, False)), ("either", (True, True, True, False))):
            settings = (("dutch", "child"), ("dutch", "grown"), ("latin", "child"), ("latin", "grown"))
            for setting, told in zip(settings, wanted):
                self.assertIs(holds(FACETS_TWO, (word, DUTCH, CHILD), setting), told)

    def test_in_every_setting(self):
        chance = random.Random(11)
        for facets in ALL_FACETS + (FACETS_GREATEST,):
            for _ in range(60):
                self.check(facets, some_when(chance, facets, 4))

    def test_each_facet(self):
        for facets in ALL_FACETS:
            for facet, words in facets:
                for size in range(1, len(words) + 1):
                    for some in itertools.combinations(words, size):
                        self.check(facets, ("is", facet, some))

    def test_facets_that_share_words(self):
        facets = (("a", ("x", "y")), ("b", ("x", "y")))
        self.assertIs(holds(facets, ("is", "a", ("x",)), ("x", "y")), True)
        self.assertIs(holds(facets, ("is", "b", ("x",)), ("x", "y")), False)

    def test_by_names(self):
        check_call(self, holds, [("facets", FACETS_TWO), ("when", CHILD), ("setting", ("dutch", "child"))])


class ToldIn(unittest.TestCase):
    def check(self, facets, when, case):
        answers = {setting in settings_where(facets, when) for setting in itertools.product(*case)}
        wanted = None if len(answers) == 2 else answers.pop()
        check_is(self, told_in(facets, when, case), wanted, (when, case))

    def test_plain(self):
        whole = whole_case(FACETS_TWO)
        self.assertIs(told_in(FACETS_TWO, ALWAYS, whole), True)
        self.assertIs(told_in(FACETS_TWO, ("not", ALWAYS), whole), False)
        self.assertIsNone(told_in(FACETS_TWO, CHILD, whole))
        self.assertIs(told_in(FACETS_TWO, CHILD, (("dutch", "latin"), ("child",))), True)
        self.assertIs(told_in(FACETS_TWO, CHILD, (("dutch", "latin"), ("grown",))), False)
        self.assertIsNone(told_in(FACETS_TWO, NOT_LATIN, (("dutch", "latin"), ("grown",))))

    def test_only_by_all_parts_together(self):
        whole = whole_case(FACETS_TWO)
        self.assertIs(told_in(FACETS_TWO, ("either", CHILD, ("not", CHILD)), whole), True)
        self.assertIs(told_in(FACETS_TWO, ("either", CHILD, GROWN), whole), True)
        self.assertIs(told_in(FACETS_TWO, ("both", CHILD, ("not", CHILD)), whole), False)
        self.assertIs(told_in(FACETS_TWO, ("both", CHILD, GROWN), whole), False)
        never = ("both", ("either", CHILD, DUTCH), ("both", ("not", CHILD), ("not", DUTCH)))
        self.assertIs(is_when(FACETS_TWO, ("either", CHILD, ("either", DUTCH, GROWN))), True)
        self.assertIs(told_in(FACETS_TWO, never, whole), False)
        self.assertIs(told_in(FACETS_TWO, ("not", never), whole), True)
        self.assertIs(told_in(FACETS_TWO, ("is", "tongue", ("dutch", "english", "latin")), whole), True)

    def test_single_settings(self):
        chance = random.Random(13)
        for facets in ALL_FACETS:
            for _ in range(20):
                when = some_when(chance, facets, 4)
                for setting in every_setting(facets):
                    case = tuple((word,) for word in setting)
                    self.assertIs(told_in(facets, when, case), setting in settings_where(facets, when))

    def test_by_chance(self):
        chance = random.Random(17)
        for facets in ALL_FACETS + (FACETS_GREATEST,):
            for _ in range(60):
                when = some_when(chance, facets, 4)
                case = tuple(tuple(sorted(chance.sample(words, chance.randint(1, len(words))))) for _, words in facets)
                self.check(facets, when, case)
                self.check(facets, when, whole_case(facets))

    def test_by_names(self):
        whole = whole_case(FACETS_FOUR)
        for when in (ALWAYS, CHILD, ("not", ALWAYS), both(CHILD, DUTCH, GROWN)):
            check_call(self, told_in, [("facets", FACETS_FOUR), ("when", when), ("case", whole)])


if __name__ == "__main__":
    unittest.main()
