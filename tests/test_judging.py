"""Promise [10]: what is lawful in all settings together, and what shows it."""

import random
import unittest

from sheafbooks.facets import is_case, settings_in, whole_case
from sheafbooks.judging import judged, shows_lawful, shows_unlawful
from sheafbooks.lawful import faults_in
from tests.common import (ALL_FACETS, FACETS_GREATEST, FACETS_ONE, FACETS_TWO, as_list_at_each_depth, check_call,
                          check_is, every_setting, odd_things)
from tests.samples import (ALWAYS, NEVER, TEXT, faults_as_written, flat, made, settings_where, some_made, some_rules,
                           some_when)

CHILD = ("is", "who", ("child",))
GROWN = ("is", "who", ("grown",))
DUTCH = ("is", "tongue", ("dutch",))
LATIN = ("is", "tongue", ("latin",))
ANY = ("many", ("either", ("kind", "sec"), ("kind", "para")))
RULES = (("para", "words"), ("sec", ANY))
LAWFUL = made(made(TEXT, kind="para", when=CHILD), made(made(when=("both", GROWN, DUTCH)), when=GROWN))


def singles(facets):
    return [tuple((word,) for word in setting) for setting in every_setting(facets)]


def told_of(facets, when, case):
    """As told_in, by sets."""
    here = set(settings_in(case))
    held = here & settings_where(facets, when)
    return True if held == here else None if held else False


def are_settled(facets, whole, case):
    """As the document says, of the root and of each element whose all around it are told True."""
    at = dict(flat(whole))
    for path, thing in at.items():
        if thing[0] in ("text", "ref", "entry"):
            continue
        around = [told_of(facets, at[path[:deep]][2], case) for deep in range(len(path))]
        if all(told is True for told in around) and told_of(facets, thing[2], case) is None:
            return False
    return True


def lawful_as_written(facets, rules, whole, cases):
    """Whether a list of CASEs shows it, worked out setting by setting."""
    settings = [setting for case in cases for setting in settings_in(case)]
    if sorted(settings) != sorted(every_setting(facets)):
        return False
    if not all(are_settled(facets, whole, case) for case in cases):
        return False
    return not any(faults_as_written(facets, rules, whole, setting) for setting in settings)


def samples(seed, many):
    chance = random.Random(seed)
    for _ in range(many):
        facets = chance.choice(ALL_FACETS)
        whole = some_made(chance, facets, "abc", chance.randint(1, 4))
        rules = some_rules(chance, "abc")
        if chance.random() < 0.4:
            every = ("many", ("either", ("kind", "a"), ("either", ("kind", "b"), ("kind", "c"))))
            rules = (("a", every), ("b", every), ("c", every))
            whole = stripped(whole)
        yield chance, facets, rules, whole


def stripped(thing):
    """A MADE element without texts and ties."""
    inner = [stripped(one) for one in thing[4] if one[0] not in ("text", "ref", "entry")]
    return thing[:3] + ("", tuple(inner))


class Judged(unittest.TestCase):
    def check(self, facets, rules, whole):
        told = judged(facets, rules, whole)
        self.assertEqual([type(told), len(told)], [tuple, 2])
        bad = [setting for setting in sorted(every_setting(facets)) if faults_as_written(facets, rules, whole, setting)]
        if bad:
            self.assertEqual(told, ("unlawful", bad[0]))
        else:
            self.assertEqual(told[0], "lawful")
            self.assertIs(type(told[1]), list)
            self.assertTrue(all(is_case(facets, case) for case in told[1]))
            self.assertTrue(len(told[1]) <= 256)
            self.assertTrue(lawful_as_written(facets, rules, whole, told[1]))
        check_is(self, shows_lawful(facets, rules, whole, told[1]), told[0] == "lawful", told)
        check_is(self, shows_unlawful(facets, rules, whole, told[1]), told[0] == "unlawful", told)
        return told

    def test_lawful(self):
        for facets in (FACETS_TWO, FACETS_TWO + (("year", ("one", "two")),)):
            for whole in (LAWFUL, made(), made(when=NEVER), made(when=CHILD), made(made(when=DUTCH), when=CHILD),
                          made(TEXT, kind="para"), made(made(kind="x", when=NEVER)), made(kind="x", when=NEVER)):
                self.assertEqual(self.check(facets, RULES, whole)[0], "lawful")

    def test_unlawful(self):
        for whole, least in ((made(kind="x"), ("dutch", "child")), (made(kind="x", when=LATIN), ("latin", "child")),
                             (made(kind="x", when=GROWN), ("dutch", "grown")),
                             (made(TEXT, when=("both", LATIN, GROWN)), ("latin", "grown")),
                             (made(TEXT, when=("not", ("both", DUTCH, CHILD))), ("dutch", "grown")),
                             (made(TEXT, when=("not", DUTCH)), ("english", "child")),
                             (made(made(when=LATIN, tie="t"), made(tie="t", when=("either", LATIN, GROWN))),
                              ("dutch", "grown"))):
            self.assertEqual(self.check(FACETS_TWO, RULES, whole), ("unlawful", least))

    def test_of_several_faults_the_least_setting(self):
        whole = made(made(TEXT, when=LATIN), made(TEXT, when=("both", GROWN, ("not", DUTCH))), made(TEXT, when=LATIN))
        self.assertEqual(self.check(FACETS_TWO, RULES, whole), ("unlawful", ("english", "grown")))

    def test_by_chance(self):
        told = {"lawful": 0, "unlawful": 0}
        for _, facets, rules, whole in samples(137, 250):
            told[self.check(facets, rules, whole)[0]] += 1
        self.assertTrue(min(told.values()) > 50, told)

    def test_the_greatest(self):
        """All settings leave something else: then there are as many cases as settings."""
        words = [("is", facet, (word,)) for facet, every in FACETS_GREATEST for word in every]
        whole = made(*[made(kind="para", when=when) for when in words])
        told = self.check(FACETS_GREATEST, RULES, whole)
        self.assertEqual((told[0], len(told[1])), ("lawful", 256))
        chance = random.Random(139)
        whole = made(*[made(*[made(kind="para", when=some_when(chance, FACETS_GREATEST, 4)) for _ in range(7)])
                       for _ in range(10)])
        self.assertEqual(judged(FACETS_GREATEST, RULES, whole)[0], "lawful")
        last = ("both", ("both", words[3], words[7]), ("both", words[11], words[15]))
        whole = made(whole, made(TEXT, when=last))
        self.assertEqual(judged(FACETS_GREATEST, RULES, whole), ("unlawful", ("h", "h", "h", "h")))

    def test_ties_that_are_never_parted(self):
        """[1] (c): conditions written otherwise that hold in the same settings part nothing."""
        for one, other, lawful in ((CHILD, ("not", GROWN), True), (DUTCH, ("not", ("either", LATIN, DUTCH)), False),
                                   (("not", ("both", CHILD, DUTCH)), ("either", GROWN, ("not", DUTCH)), True),
                                   (CHILD, ("either", CHILD, ("both", GROWN, LATIN)), False)):
            whole = made(made(tie="t", when=one), made(tie="t", when=other))
            self.assertEqual(self.check(FACETS_TWO, RULES, whole)[0] == "lawful", lawful)

    def test_by_names(self):
        for whole in (LAWFUL, made(kind="x", when=GROWN)):
            check_call(self, judged, [("facets", FACETS_TWO), ("rules", RULES), ("element", whole)])


class ShowsLawful(unittest.TestCase):
    def check(self, facets, rules, whole, thing, wanted):
        check_is(self, shows_lawful(facets, rules, whole, thing), wanted, (whole, thing))

    def test_each_setting_by_itself(self):
        for _, facets, rules, whole in samples(149, 60):
            lawful = judged(facets, rules, whole)[0] == "lawful"
            self.check(facets, rules, whole, singles(facets), lawful)
            self.check(facets, rules, whole, singles(facets)[::-1], lawful)

    def test_a_case_out_twice_or_changed(self):
        for chance, facets, rules, whole in samples(151, 60):
            told, cases = judged(facets, rules, whole)
            if told == "unlawful":
                continue
            for at, case in enumerate(cases[:6]):
                self.check(facets, rules, whole, cases[:at] + cases[at + 1:], False)
                self.check(facets, rules, whole, cases + [case], False)
                for place, words in enumerate(case):
                    others = [tuple(word for word in words if word != out) for out in words]
                    others += [tuple(sorted(words + (more,))) for more in facets[place][1] if more not in words]
                    for other in others:
                        changed = cases[:at] + [case[:place] + (other,) + case[place + 1:]] + cases[at + 1:]
                        self.check(facets, rules, whole, changed, False)
            chance.shuffle(cases)
            self.check(facets, rules, whole, cases, True)

    def test_where_a_when_is_told_none(self):
        whole = [whole_case(FACETS_TWO)]
        self.check(FACETS_TWO, RULES, made(), whole, True)
        for when in (CHILD, DUTCH, ("both", CHILD, LATIN)):
            self.check(FACETS_TWO, RULES, made(when=when), whole, False)
            self.check(FACETS_TWO, RULES, made(made(when=when)), whole, False)
            self.check(FACETS_TWO, RULES, made(made(), made(made(made(when=when)))), whole, False)
            self.check(FACETS_TWO, RULES, made(made(when=when), when=NEVER), whole, True)
            self.check(FACETS_TWO, RULES, made(made(made(when=when), when=NEVER)), whole, True)
            self.check(FACETS_TWO, RULES, made(when=("either", when, ("not", when))), whole, True)

    def test_only_where_all_around_are_told_true(self):
        cases = [(("dutch", "english", "latin"), ("child",)), (("dutch", "english", "latin"), ("grown",))]
        self.check(FACETS_TWO, RULES, made(when=CHILD), cases, True)
        self.check(FACETS_TWO, RULES, made(made(when=CHILD), made(when=GROWN)), cases, True)
        self.check(FACETS_TWO, RULES, made(made(when=DUTCH), when=CHILD), cases, False)
        self.check(FACETS_TWO, RULES, made(made(when=DUTCH)), cases, False)
        parted = [(("dutch",), ("child",)), (("english", "latin"), ("child",)), cases[1]]
        self.check(FACETS_TWO, RULES, made(made(when=DUTCH), when=CHILD), parted, True)
        self.check(FACETS_TWO, RULES, made(made(when=DUTCH)), parted, False)
        self.check(FACETS_TWO, RULES, made(made(when=LATIN), when=CHILD), parted, False)
        both = made(made(made(when=LATIN), when=("both", CHILD, DUTCH)))
        self.check(FACETS_TWO, RULES, both, parted, True)

    def test_of_unlawful_ones(self):
        for whole in (made(kind="x"), made(TEXT), made(kind="x", when=CHILD), made(made(kind="x", when=LATIN))):
            for cases in ([whole_case(FACETS_TWO)], singles(FACETS_TWO), [], singles(FACETS_TWO)[1:]):
                self.check(FACETS_TWO, RULES, whole, cases, False)

    def test_the_last_case_has_the_fault(self):
        cases = singles(FACETS_TWO)
        for setting in every_setting(FACETS_TWO):
            when = ("both", ("is", "tongue", setting[:1]), ("is", "who", setting[1:]))
            self.check(FACETS_TWO, RULES, made(made(when=when)), cases, True)
            self.check(FACETS_TWO, RULES, made(made(TEXT, when=when)), cases, False)

    def test_lists_and_tuples(self):
        cases = judged(FACETS_TWO, RULES, LAWFUL)[1]
        self.check(FACETS_TWO, RULES, LAWFUL, cases, True)
        self.check(FACETS_TWO, RULES, LAWFUL, tuple(cases), False)
        self.check(FACETS_TWO, RULES, LAWFUL, ("lawful", cases), False)
        for at, case in enumerate(cases):
            for thing in as_list_at_each_depth(case):
                self.check(FACETS_TWO, RULES, LAWFUL, cases[:at] + [thing] + cases[at + 1:], False)

    def test_things_of_any_kind(self):
        for thing in odd_things():
            self.check(FACETS_ONE, RULES, made(), thing, False)
            for more in ([thing], [(thing,)], [whole_case(FACETS_ONE), thing], [thing, whole_case(FACETS_ONE)]):
                self.check(FACETS_ONE, RULES, made(), more, False)
        self.check(FACETS_ONE, RULES, made(), [whole_case(FACETS_ONE)], True)
        self.check(FACETS_ONE, RULES, made(), [("child", "grown")], False)
        self.check(FACETS_ONE, RULES, made(), [whole_case(FACETS_ONE)] * 100000, False)

    def test_by_chance(self):
        told = {True: 0, False: 0}
        for chance, facets, rules, whole in samples(157, 250):
            cases = judged(facets, rules, whole)[1]
            if not isinstance(cases, list):
                continue
            kept = [self.joined(chance, cases), self.joined(chance, singles(facets)), cases]
            for some in kept:
                wanted = lawful_as_written(facets, rules, whole, some)
                told[wanted] += 1
                self.check(facets, rules, whole, some, wanted)
        self.assertTrue(min(told.values()) > 30, told)

    def joined(self, chance, cases):
        """These CASEs, two that are unlike at one facet alone made one, where there are such."""
        for one in cases:
            for other in cases:
                places = [at for at in range(len(one)) if one[at] != other[at]]
                if len(places) == 1 and chance.random() < 0.5:
                    at = places[0]
                    both = one[:at] + (tuple(sorted(one[at] + other[at])),) + one[at + 1:]
                    return [case for case in cases if case not in (one, other)] + [both]
        return list(cases)

    def test_by_names(self):
        cases = judged(FACETS_TWO, RULES, LAWFUL)[1]
        for thing in (cases, cases[1:], tuple(cases)):
            arguments = [("facets", FACETS_TWO), ("rules", RULES), ("element", LAWFUL), ("thing", thing)]
            self.assertIs(check_call(self, shows_lawful, arguments), thing == cases)


class ShowsUnlawful(unittest.TestCase):
    def check(self, facets, rules, whole, thing, wanted):
        check_is(self, shows_unlawful(facets, rules, whole, thing), wanted, (whole, thing))

    def test_each_setting(self):
        told = {True: 0, False: 0}
        for _, facets, rules, whole in samples(163, 100):
            for setting in every_setting(facets):
                wanted = faults_in(facets, rules, whole, setting) != []
                told[wanted] += 1
                self.check(facets, rules, whole, setting, wanted)
        self.assertTrue(min(told.values()) > 300, told)

    def test_all_else(self):
        bad = made(kind="x")
        self.check(FACETS_TWO, RULES, bad, ("dutch", "child"), True)
        for thing in (["dutch", "child"], ("dutch",), ("dutch", "child", "child"), ("child", "dutch"), ("dutch", "old"),
                      (("dutch",), ("child",)), whole_case(FACETS_TWO), [("dutch", "child")], "dutch",
                      ("unlawful", ("dutch", "child")), ()):
            self.check(FACETS_TWO, RULES, bad, thing, False)
        self.check(FACETS_TWO, RULES, LAWFUL, ("dutch", "child"), False)

    def test_things_of_any_kind(self):
        for thing in odd_things():
            self.check(FACETS_ONE, RULES, made(kind="x"), thing, False)
            self.check(FACETS_ONE, RULES, made(kind="x"), (thing,), thing == "child")
            self.check(FACETS_ONE, RULES, made(), (thing,), False)
            self.check(FACETS_TWO, RULES, made(kind="x"), ("dutch", thing), thing == "child")

    def test_by_names(self):
        for thing in (("dutch", "child"), ("dutch", "grown"), ["dutch", "child"]):
            arguments = [("facets", FACETS_TWO), ("rules", RULES), ("element", made(kind="x", when=CHILD)),
                         ("thing", thing)]
            self.assertIs(check_call(self, shows_unlawful, arguments), thing == ("dutch", "child"))


class OneOfBoth(unittest.TestCase):
    def test_one_of_both_can_always_be_shown(self):
        for _, facets, rules, whole in samples(167, 150):
            lawful = shows_lawful(facets, rules, whole, singles(facets))
            unlawful = [setting for setting in every_setting(facets) if shows_unlawful(facets, rules, whole, setting)]
            self.assertEqual(lawful, unlawful == [])

    def test_rules_are_handed_in_bare_too(self):
        self.assertEqual(judged(FACETS_ONE, (), made(when=GROWN)), ("unlawful", ("grown",)))
        self.assertEqual(judged(FACETS_ONE, (), made(when=NEVER))[0], "lawful")
        self.assertEqual(judged(FACETS_ONE, (("sec", ("none",)),), made(when=ALWAYS))[0], "lawful")


if __name__ == "__main__":
    unittest.main()
