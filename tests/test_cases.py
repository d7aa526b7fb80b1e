"""Promise [5], cases.py: the cases in which a WHEN holds."""

import itertools
import random
import unittest

from sheafbooks.cases import cases_of, shows_cases
from sheafbooks.facets import is_case, settings_in, whole_case
from tests.common import (ALL_FACETS, FACETS_FOUR, FACETS_GREATEST, FACETS_ONE, FACETS_TWO, as_list_at_each_depth,
                          check_call, check_is, odd_things)
from tests.samples import ALWAYS, settings_where, some_when

CHILD = ("is", "who", ("child",))
DUTCH = ("is", "tongue", ("dutch",))
NEVER = ("not", ALWAYS)


def samples(seed, many):
    """Pairs (facets, when), each of them often, the ones that hold always and never too."""
    chance = random.Random(seed)
    told = []
    for facets in ALL_FACETS + (FACETS_GREATEST,):
        told += [(facets, ALWAYS), (facets, NEVER)]
        told += [(facets, some_when(chance, facets, 4)) for _ in range(many)]
    return told


class CasesOf(unittest.TestCase):
    def check(self, facets, when):
        told = cases_of(facets, when)
        self.assertIs(type(told), list)
        self.assertTrue(all(is_case(facets, case) for case in told))
        settings = [setting for case in told for setting in itertools.product(*case)]
        self.assertEqual(len(settings), len(set(settings)))
        self.assertEqual(set(settings), settings_where(facets, when))

    def test_each_word(self):
        for when in (ALWAYS, NEVER, CHILD, ("not", CHILD), ("both", CHILD, DUTCH), ("either", CHILD, DUTCH),
                     ("either", CHILD, CHILD), ("both", CHILD, ("not", CHILD)), ("either", CHILD, ("not", CHILD))):
            self.check(FACETS_TWO, when)

    def test_by_chance(self):
        for facets, when in samples(19, 80):
            self.check(facets, when)

    def test_never(self):
        self.assertEqual(cases_of(FACETS_TWO, NEVER), [])
        self.assertEqual(cases_of(FACETS_TWO, ("both", CHILD, ("not", CHILD))), [])
        self.assertEqual(cases_of(FACETS_TWO, ("both", CHILD, ("is", "who", ("grown",)))), [])

    def test_by_names(self):
        for when in (ALWAYS, NEVER, ("either", CHILD, DUTCH)):
            check_call(self, cases_of, [("facets", FACETS_FOUR), ("when", when)])


class ShowsCases(unittest.TestCase):
    def check(self, facets, when, thing, wanted):
        check_is(self, shows_cases(facets, when, thing), wanted, (when, thing))

    def test_what_is_told_in_any_order(self):
        chance = random.Random(23)
        for facets, when in samples(29, 40):
            cases = cases_of(facets, when)
            self.check(facets, when, cases, True)
            self.check(facets, when, cases[::-1], True)
            chance.shuffle(cases)
            self.check(facets, when, cases, True)

    def test_each_setting_by_itself(self):
        for facets, when in samples(31, 40):
            single = [tuple((word,) for word in setting) for setting in settings_where(facets, when)]
            self.check(facets, when, single, True)
            self.check(facets, when, sorted(single), True)
            if single:
                self.check(facets, when, single[1:], False)
                self.check(facets, when, single + single[:1], False)

    def test_a_case_out_or_twice(self):
        for facets, when in samples(37, 40):
            cases = cases_of(facets, when)
            for at, case in enumerate(cases):
                self.check(facets, when, cases[:at] + cases[at + 1:], False)
                self.check(facets, when, cases + [case], False)

    def test_a_word_more_or_fewer(self):
        for facets, when in samples(41, 25):
            cases = cases_of(facets, when)
            for at, case in enumerate(cases):
                for place, words in enumerate(case):
                    every = facets[place][1]
                    others = [tuple(word for word in words if word != out) for out in words if len(words) > 1]
                    others += [tuple(sorted(words + (more,))) for more in every if more not in words]
                    for other in others:
                        changed = case[:place] + (other,) + case[place + 1:]
                        self.check(facets, when, cases[:at] + [changed] + cases[at + 1:], False)

    def test_of_another_when(self):
        for facets, when in samples(43, 40):
            self.check(facets, ("not", when), cases_of(facets, when), False)
            self.check(facets, when, cases_of(facets, ("not", when)), False)

    def test_cases_that_meet(self):
        whole = whole_case(FACETS_TWO)
        self.check(FACETS_TWO, ALWAYS, [whole], True)
        self.check(FACETS_TWO, ALWAYS, [whole, whole], False)
        meeting = [(("dutch", "english"), ("child", "grown")), (("english", "latin"), ("child", "grown"))]
        self.check(FACETS_TWO, ALWAYS, meeting, False)
        self.check(FACETS_TWO, ALWAYS, [meeting[0], (("latin",), ("child", "grown"))], True)

    def test_bare_list(self):
        self.check(FACETS_TWO, NEVER, [], True)
        self.check(FACETS_TWO, ALWAYS, [], False)
        self.check(FACETS_TWO, NEVER, (), False)

    def test_lists_and_tuples(self):
        for facets, when in samples(47, 10):
            cases = cases_of(facets, when)
            self.check(facets, when, tuple(cases), False)
            for at, case in enumerate(cases[:5]):
                for thing in as_list_at_each_depth(case):
                    self.check(facets, when, cases[:at] + [thing] + cases[at + 1:], False)

    def test_things_of_any_kind(self):
        for thing in odd_things():
            for when in (ALWAYS, CHILD, NEVER):
                self.check(FACETS_ONE, when, thing, when == NEVER and thing == [])
            self.check(FACETS_ONE, CHILD, [thing], False)
            self.check(FACETS_ONE, CHILD, [(("child",),), thing], False)
            self.check(FACETS_ONE, CHILD, [(thing,)], False)
            self.check(FACETS_ONE, NEVER, [thing], False)
        self.check(FACETS_ONE, CHILD, [(("child",),)], True)
        self.check(FACETS_ONE, CHILD, [("child",)], False)
        self.check(FACETS_ONE, CHILD, settings_in((("child",),)), False)
        self.check(FACETS_ONE, CHILD, (("child",),), False)

    def test_words_that_fall(self):
        self.check(FACETS_ONE, ALWAYS, [(("child", "grown"),)], True)
        self.check(FACETS_ONE, ALWAYS, [(("grown", "child"),)], False)
        self.check(FACETS_ONE, CHILD, [(("child", "child"),)], False)

    def test_by_names(self):
        cases = cases_of(FACETS_FOUR, ("either", CHILD, DUTCH))
        for thing in (cases, tuple(cases), cases[1:]):
            arguments = [("facets", FACETS_FOUR), ("when", ("either", CHILD, DUTCH)), ("thing", thing)]
            self.assertIs(check_call(self, shows_cases, arguments), thing == cases)


if __name__ == "__main__":
    unittest.main()
