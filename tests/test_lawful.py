"""Promise [9]: RULES, what is left in a setting, and faults."""

import random
import unittest

from sheafbooks.lawful import faults_in, is_rules, left_in
from sheafbooks.puts import put_in
from tests.common import (ALL_FACETS, FACETS_GREATEST, FACETS_ONE, FACETS_TWO, as_list_at_each_depth, check_call,
                          check_is, every_setting, nested, odd_things)
from tests.samples import (ALWAYS, ENTRY, NEVER, PLAIN, REF, TEXT, element, faults_as_written, flat, left_paths, made,
                           some_made, some_rules)

CHILD = ("is", "who", ("child",))
GROWN = ("is", "who", ("grown",))
DUTCH = ("is", "tongue", ("dutch",))
NONE = ("none",)
ANY = ("many", ("either", ("kind", "sec"), ("kind", "para")))
PARAS = ("many", ("kind", "para"))


class IsRules(unittest.TestCase):
    def check(self, thing, wanted):
        check_is(self, is_rules(thing), wanted, thing)

    def test_bare_and_one(self):
        self.check((), True)
        for rule in ("words", NONE, ("kind", "a"), ANY, PARAS, ("row", NONE, NONE)):
            self.check((("sec", rule),), True)

    def test_eight_and_nine(self):
        for many, wanted in ((2, True), (7, True), (8, True), (9, False), (10, False)):
            self.check(tuple((kind, "words") for kind in "abcdefghij"[:many]), wanted)
            self.check(tuple((kind, PARAS) for kind in "abcdefghij"[:many]), wanted)

    def test_kinds_rise(self):
        self.check((("a", "words"), ("b", "words")), True)
        self.check((("a", "words"), ("aa", "words"), ("b", NONE)), True)
        for kinds in ("ba", "aa", "abb", "aab", "acb", "bac", "aba"):
            self.check(tuple((kind, "words") for kind in kinds), False)
        self.check((("a", "words"), ("a", NONE)), False)

    def test_kinds(self):
        for kind, wanted in (("text", True), ("ref", True), ("entry", True), ("put", True), ("words", True), ("z", True),
                             ("abcdefgh", True), ("abcdefghi", False), ("", False), ("A", False), ("a1", False),
                             ("a ", False), (None, False), (True, False), (0, False), (("a",), False), (["a"], False)):
            self.check(((kind, "words"),), wanted)
            self.check(((kind, NONE),), wanted)

    def test_rules(self):
        for rule in ("word", "Words", "", "none", "kind", None, True, 0, (), [], ("words",), ["words"], ("kind",),
                     ("kind", "A"), ("kind", ""), ["none"], ("none", "none"), ("many", "a"), ("row", NONE), ALWAYS,
                     nested(NONE, lambda inner: ("many", inner), 5), ("row", "words", NONE)):
            self.check((("sec", rule),), False)
            self.check((("a", "words"), ("sec", rule)), False)
            self.check((("sec", rule), ("z", "words")), False)
        self.check((("sec", nested(NONE, lambda inner: ("many", inner), 4)),), True)

    def test_kinds_in_models(self):
        for kind in ("text", "ref", "entry", "put"):
            self.check((("sec", ("kind", kind)),), True)

    def test_pairs(self):
        for thing in (("sec",), ("sec", "words", "words"), "sec", (), ("words", NONE, NONE), NONE, None, "ab"):
            self.check((thing,), False)
        self.check(("sec", "words"), False)
        self.check((("sec", "words"), ()), False)

    def test_lists_for_tuples(self):
        whole = (("a", "words"), ("b", ("row", ("kind", "a"), PARAS)))
        self.check(whole, True)
        for thing in as_list_at_each_depth(whole):
            self.check(thing, False)
        self.check([], False)

    def test_things_of_any_kind(self):
        for thing in odd_things():
            self.check(thing, thing == ())
            self.check((thing,), False)
            self.check((("a", "words"), thing), False)
            self.check(((thing, "words"),), thing in ("a", "always", "none", "child"))
            self.check((("a", thing),), False)

    def test_by_names(self):
        self.assertIs(check_call(self, is_rules, [("thing", (("a", "words"),))]), True)
        self.assertIs(check_call(self, is_rules, [("thing", [("a", "words")])]), False)


class LeftIn(unittest.TestCase):
    def check(self, whole, setting, wanted, facets=FACETS_ONE):
        self.assertEqual(left_in(facets, whole, setting), wanted)

    def test_root(self):
        for when, child, grown in ((ALWAYS, True, True), (NEVER, False, False), (CHILD, True, False),
                                   (GROWN, False, True), (("either", CHILD, GROWN), True, True)):
            whole = made(TEXT, when=when)
            self.check(whole, ("child",), whole if child else None)
            self.check(whole, ("grown",), whole if grown else None)

    def test_texts_refs_and_entries_stay(self):
        whole = made(made(*PLAIN, when=CHILD), made(*PLAIN[::-1]))
        self.check(whole, ("child",), whole)
        self.check(whole, ("grown",), made(made(*PLAIN[::-1])))

    def test_at_any_depth(self):
        whole = made(made(made(made(TEXT, when=CHILD, home=("a", "b")), made(when=GROWN, tie="t"), kind="x")), made())
        self.check(whole, ("child",), made(made(made(made(TEXT, when=CHILD, home=("a", "b")), kind="x")), made()))
        self.check(whole, ("grown",), made(made(made(made(when=GROWN, tie="t"), kind="x")), made()))

    def test_what_is_around_decides_too(self):
        whole = made(made(made(when=CHILD), when=GROWN), made(made(when=ALWAYS), when=CHILD))
        self.check(whole, ("child",), made(made(made(when=ALWAYS), when=CHILD)))
        self.check(whole, ("grown",), made(made(when=GROWN)))
        self.check(made(made(when=CHILD), when=GROWN), ("child",), None)

    def test_all_else_as_it_is(self):
        whole = made(made(REF, kind="fig", home=("p", "n"), when=CHILD, tie="t"), kind="x", home=("q", "m"), tie="u")
        self.check(whole, ("child",), whole)
        self.check(whole, ("grown",), made(kind="x", home=("q", "m"), tie="u"))

    def test_by_chance(self):
        chance = random.Random(127)
        for _ in range(150):
            facets = chance.choice(ALL_FACETS)
            whole = some_made(chance, facets, "abc", 4)
            for setting in every_setting(facets)[:8]:
                left = left_paths(facets, whole, setting)
                told = left_in(facets, whole, setting)
                wanted = [thing[:4] if path in left else thing for path, thing in flat(whole)
                          if path in left or thing[0] in ("text", "ref", "entry") and path[:-1] in left]
                if () not in left:
                    self.assertIsNone(told)
                else:
                    self.assertEqual([thing if thing[0] in ("text", "ref", "entry") else thing[:4]
                                      for _, thing in flat(told)], wanted)

    def test_of_a_part_put_in(self):
        parts = [("a", "", element(("put", "b", "x"), element(("put", "b", ""), when=GROWN))),
                 ("b", "", element(element(TEXT, name="x", when=CHILD)))]
        whole = put_in(parts, "a")
        self.check(whole, ("child",), made(made(TEXT, home=("b", "x"), when=CHILD)))
        self.check(whole, ("grown",), made(made(made(), when=GROWN)))

    def test_by_names(self):
        for when in (CHILD, GROWN):
            arguments = [("facets", FACETS_ONE), ("element", made(made(when=GROWN), when=when)), ("setting", ("child",))]
            check_call(self, left_in, arguments)


class FaultsIn(unittest.TestCase):
    def check(self, rules, whole, wanted, setting=("child",), facets=FACETS_ONE):
        told = faults_in(facets, rules, whole, setting)
        self.assertEqual(told, wanted)
        self.assertIs(type(told), list)
        self.assertEqual(told, faults_as_written(facets, rules, whole, setting))
        for fault in told:
            self.assertEqual([type(fault), type(fault[0])], [tuple, tuple])

    def test_none(self):
        rules = (("para", "words"), ("sec", ANY))
        for whole in (made(), made(*PLAIN, kind="para"), made(made(TEXT, kind="para"), made(made(kind="para"))),
                      made(kind="para")):
            self.check(rules, whole, [])

    def test_kind(self):
        self.check((), made(), [((), "kind")])
        self.check((("para", "words"),), made(), [((), "kind")])
        self.check((("sec", ANY),), made(made(kind="para"), made()), [((0,), "kind")])
        self.check((), made(made(made())), [((), "kind"), ((0,), "kind"), ((0, 0), "kind")])

    def test_kind_alone_and_with_tie(self):
        """One whose kind isn't in the rules has neither words nor row."""
        self.check((("sec", PARAS),), made(made(TEXT, kind="x"), kind="y"), [((), "kind"), ((0,), "kind")])
        parted = (made(when=CHILD, tie="t"), made(when=GROWN, tie="t"))
        self.check((("sec", ANY),), made(*parted, kind="x"), [((), "kind"), ((), "tie")])

    def test_words(self):
        rules = (("para", "words"), ("sec", PARAS))
        self.check(rules, made(made(kind="para"), kind="para"), [((), "words")])
        self.check(rules, made(made(kind="para"), made(kind="para"), kind="para"), [((), "words")])
        for thing in PLAIN:
            self.check(rules, made(thing), [((), "words")])
            self.check(rules, made(thing, thing), [((), "words")])
            self.check(rules, made(thing, kind="para"), [])

    def test_words_of_what_is_not_left(self):
        rules = (("para", "words"),)
        self.check(rules, made(made(kind="para", when=GROWN), kind="para"), [((), "words")])
        self.check(rules, made(made(kind="para", when=NEVER), kind="para"), [((), "words")])

    def test_words_with_row(self):
        rules = (("sec", ("kind", "para")),)
        self.check(rules, made(TEXT), [((), "words"), ((), "row")])
        self.check(rules, made(TEXT, REF, ENTRY), [((), "words"), ((), "row")])
        self.check((("sec", NONE),), made(TEXT), [((), "words")])

    def test_things_of_both_kinds(self):
        """In no PART do they stand together, but each is told all the same."""
        rules = (("para", "words"), ("sec", PARAS))
        self.check(rules, made(TEXT, made(kind="para")), [((), "words")])
        self.check(rules, made(made(kind="para"), TEXT, kind="para"), [((), "words")])
        self.check((("para", "words"), ("sec", NONE)), made(made(kind="para"), TEXT), [((), "words"), ((), "row")])

    def test_row(self):
        rules = (("head", "words"), ("para", "words"), ("sec", ("row", ("kind", "head"), PARAS)))
        head, para = made(TEXT, kind="head"), made(TEXT, kind="para")
        for things, wanted in (((head,), []), ((head, para, para), []), ((), [((), "row")]), ((para,), [((), "row")]),
                               ((para, head), [((), "row")]), ((head, para, head), [((), "row")])):
            self.check(rules, made(*things), wanted)

    def test_row_of_what_is_left(self):
        rules = (("head", "words"), ("para", "words"), ("sec", ("row", ("kind", "head"), PARAS)))
        whole = made(made(kind="head", when=CHILD), made(kind="para", when=GROWN), made(kind="head", when=GROWN))
        self.check(rules, whole, [], ("child",))
        self.check(rules, whole, [((), "row")], ("grown",))
        self.check(rules, made(made(kind="head", when=GROWN)), [((), "row")], ("child",))

    def test_rows_of_kinds_that_are_words(self):
        """A KIND in a MODEL may be one of the four words; a text is none of the elements."""
        self.check((("sec", ("kind", "text")),), made(TEXT), [((), "words"), ((), "row")])
        self.check((("sec", ("many", ("kind", "text"))), ("text", "words")), made(TEXT), [((), "words")])

    def test_tie(self):
        rules = (("sec", ANY),)

        def ties(*pairs):
            return made(*[made(tie=tie, when=when) for tie, when in pairs])
        for pairs, wanted in (
                ((("t", CHILD), ("t", CHILD)), []), ((("t", GROWN), ("t", GROWN)), []),
                ((("t", CHILD), ("t", GROWN)), [((), "tie")]), ((("t", GROWN), ("t", ALWAYS)), [((), "tie")]),
                ((("", CHILD), ("", GROWN)), []), ((("t", CHILD), ("u", GROWN)), []),
                ((("t", CHILD), ("u", GROWN), ("t", CHILD), ("u", GROWN)), []),
                ((("t", CHILD), ("u", GROWN), ("t", GROWN), ("u", CHILD)), [((), "tie")]),
                ((("t", CHILD), ("u", GROWN), ("t", CHILD), ("u", CHILD)), [((), "tie")]),
                ((("t", CHILD),), []), ((("t", GROWN),), []), ((("t", CHILD), ("", GROWN)), []),
                ((("t", ALWAYS), ("t", ALWAYS), ("t", NEVER)), [((), "tie")])):
            told = faults_in(FACETS_ONE, rules, ties(*pairs), ("child",))
            self.assertEqual(told, wanted, pairs)

    def test_ties_are_of_the_things_of_one_element(self):
        rules = (("sec", ANY),)
        apart = made(made(made(tie="t", when=CHILD)), made(made(tie="t", when=GROWN)))
        self.check(rules, apart, [])
        self.check(rules, made(made(tie="t", when=CHILD), made(made(tie="t", when=GROWN), tie="t", when=CHILD)), [])
        self.check(rules, made(apart, made(made(when=GROWN), made(tie="b", when=CHILD), made(tie="b", when=GROWN)), tie="b"),
                   [((1,), "tie")])

    def test_several_at_one(self):
        rules = (("para", "words"), ("sec", ("kind", "para")))
        parted = (made(when=CHILD, tie="a", kind="para"), made(when=GROWN, tie="a", kind="para"))
        self.check(rules, made(*parted, *parted, kind="para"), [((), "words"), ((), "tie")])
        self.check(rules, made(*parted, *parted), [((), "row"), ((), "tie")])
        self.check(rules, made(TEXT, *parted, *parted), [((), "words"), ((), "row"), ((), "tie")])
        self.check(rules, made(*parted), [((), "tie")])

    def test_by_paths_as_handed_in(self):
        """Not by those in what is left."""
        rules = (("sec", ANY),)
        whole = made(made(when=GROWN), made(made(when=GROWN), made(kind="x")), made(when=NEVER), made(kind="y"))
        self.check(rules, whole, [((), "row"), ((1,), "row"), ((1, 1), "kind"), ((3,), "kind")])
        many = made(*[made(kind="x") for _ in range(12)])
        self.check((("sec", ("many", ("kind", "x"))),), many, [((at,), "kind") for at in range(12)])
        inner = made(*[made(made(kind="y")) for _ in range(12)])
        told = [((at,), "row") for at in range(12)] + [((at, 0), "kind") for at in range(12)]
        self.check(rules, inner, sorted(told))

    def test_no_fault_of_what_is_not_left(self):
        rules = (("sec", ANY),)
        bad = made(TEXT, made(when=CHILD, tie="t"), made(when=GROWN, tie="t"), kind="x", when=GROWN)
        self.check(rules, made(bad), [])
        self.check(rules, bad, [])
        self.check(rules, made(made(made(kind="x"), when=GROWN), made(bad, kind="sec")), [])
        self.check(rules, made(bad), [((), "row"), ((0,), "kind"), ((0,), "tie")], ("grown",))

    def test_two_facets(self):
        rules = (("para", "words"), ("sec", PARAS))
        whole = made(made(kind="para", when=("both", CHILD, DUTCH), tie="t"), made(kind="para", when=CHILD, tie="t"))
        for setting in every_setting(FACETS_TWO):
            wanted = [((), "tie")] if setting[1] == "child" and setting[0] != "dutch" else []
            self.check(rules, whole, wanted, setting, FACETS_TWO)

    def test_by_chance(self):
        chance = random.Random(131)
        words = {"kind": 0, "words": 0, "row": 0, "tie": 0}
        for _ in range(300):
            facets = chance.choice(ALL_FACETS)
            whole = some_made(chance, facets, "abc", 4)
            rules = some_rules(chance, "abc")
            settings = every_setting(facets)
            for setting in chance.sample(settings, min(6, len(settings))):
                told = faults_in(facets, rules, whole, setting)
                self.assertEqual(told, faults_as_written(facets, rules, whole, setting))
                for _, word in told:
                    words[word] += 1
        self.assertTrue(min(words.values()) > 20, words)

    def test_the_greatest(self):
        whole = nested(made(*[made(kind="para", tie="t") for _ in range(58)], when=("is", "a", ("e",))),
                       lambda inner: made(inner, made(TEXT)), 10)
        rules = (("para", "words"), ("sec", ("many", ("either", ("kind", "para"), ("kind", "sec")))))
        self.assertEqual(faults_in(FACETS_GREATEST, rules, whole, ("e", "e", "e", "e")),
                         sorted(((0,) * deep + (1,), "words") for deep in range(10)))

    def test_by_names(self):
        rules = (("para", "words"), ("sec", PARAS))
        for whole in (made(), made(TEXT), made(made(kind="para", when=GROWN))):
            arguments = [("facets", FACETS_ONE), ("rules", rules), ("element", whole), ("setting", ("child",))]
            check_call(self, faults_in, arguments)


if __name__ == "__main__":
    unittest.main()
