"""Promise [7]: PARTs, their ELEMENTs and THINGs."""

import random
import unittest

from sheafbooks.parts import elements_of, is_part, named, things_of
from tests.common import (FACETS_FOUR, FACETS_ONE, FACETS_TWO, as_list_at_each_depth, check_call, check_is, nested,
                          odd_things)
from tests.samples import ALWAYS, ENTRY, PLAIN, PUT, REF, TEXT, element, part

CHILD = ("is", "who", ("child",))


def chain(deep, *things):
    """Elements in one another, so many deep, the things in the last."""
    return nested(element(*things), lambda inner: element(inner), deep - 1)


class IsPart(unittest.TestCase):
    def check(self, thing, wanted, facets=FACETS_TWO):
        check_is(self, is_part(facets, thing), wanted, thing)

    def test_plain(self):
        self.check(part(), True)
        self.check(part(*PLAIN), True)
        self.check(part(PUT, element(TEXT), PUT), True)
        self.check(part(element(*PLAIN), element(element(), PUT), name="a", title=""), True)

    def test_each_thing(self):
        for thing in PLAIN + (PUT, element()):
            self.check(part(thing), True)
            self.check(part(thing, thing), True)
            self.check(part(element(thing)), True)
            self.check(part(element(thing), element(thing)), True)

    def test_what_stands_beside(self):
        for one in PLAIN:
            for other in PLAIN:
                self.check(part(one, other), True)
            for other in (PUT, element(), element(TEXT)):
                self.check(part(one, other), False)
                self.check(part(other, one), False)
                self.check(part(other, other, one), False)
                self.check(part(one, one, other), False)
                self.check(part(element(one, other)), False)
                self.check(part(element(), element(other, one)), False)
        self.check(part(PUT, PUT), True)
        self.check(part(PUT, element()), True)
        self.check(part(element(), PUT), True)

    def test_how_many_behind_the_word(self):
        for thing in PLAIN + (PUT,):
            self.check(part(thing[:-1]), False)
            self.check(part(thing + ("fig",)), False)
            self.check(part(thing[:1]), False)
        for thing in ((), ("sec",), element()[:4], element() + ((),), ("text", "a", "b", "c", ())):
            self.check(part(thing), False)

    def test_other_words(self):
        for word in ("note", "", "puts", "Text", "sec", None, True, 0, ("put",), ["text"]):
            for thing in PLAIN + (PUT,):
                self.check(part((word,) + thing[1:]), False)
                self.check(part(element((word,) + thing[1:])), False)
        for thing in PLAIN + (PUT,):
            for word in ("text", "ref", "entry", "put"):
                self.check(part((word,) + thing[1:]), word == thing[0] or (word, thing[0]) in (
                    ("put", "entry"), ("entry", "put")))

    def test_text(self):
        for text, wanted in (("", True), (" ", True), ("a" * 40, True), ("a" * 41, False), ("~", True), ("<key>", True),
                             ("50%", False), ("a\nb", False), ("\n", False), ("\t", False), ("\x7f", False),
                             ("\u00e4", False), (None, False), (True, False), (1, False), (("a",), False),
                             (["a"], False)):
            self.check(part(("text", text)), wanted)
            self.check(part(title=text), wanted)

    def test_ref_and_put(self):
        for name, wanted in (("a", True), ("abcdefgh", True), ("abcdefghi", False), ("A", False), ("a b", False),
                             ("a%", False), ("a\n", False), (None, False), (True, False), (0, False), (("a",), False),
                             (["a"], False), ("\u00e4", False)):
            for thing in (("ref", name, "fig", "number"), ("ref", "other", name, "title"), ("put", name, "fig"),
                          ("put", "other", name)):
                self.check(part(thing), wanted)
        for thing, wanted in ((("ref", "", "fig", "number"), False), (("ref", "other", "", "number"), True),
                              (("put", "", "fig"), False), (("put", "other", ""), True), (("put", "", ""), False)):
            self.check(part(thing), wanted)

    def test_how(self):
        for how, wanted in (("number", True), ("title", True), ("", False), ("page", False), ("Number", False),
                            ("number ", False), (None, False), (True, False), (1, False), (("number",), False),
                            (["title"], False)):
            self.check(part(("ref", "other", "fig", how)), wanted)
            self.check(part(("ref", "other", "", how)), wanted)

    def test_entry(self):
        for text, main, sub in (("a", True, True), ("", False, True), (" ", True, True), ("a" * 20, True, True),
                                ("a" * 21, False, False), ("A/b, c", True, True), ("5%", False, False),
                                ("a\nb", False, False), (None, False, False), (True, False, False), (0, False, False),
                                (("a",), False, False), (["a"], False, False), ("\u00e4", False, False)):
            self.check(part(("entry", text, "sub")), main)
            self.check(part(("entry", "main", text)), sub)

    def test_kinds(self):
        for kind in ("text", "ref", "entry", "put"):
            self.check(part(kind=kind), False)
            self.check(part(element(kind=kind)), False)
            self.check(part(element(TEXT, kind=kind)), False)
        for kind, wanted in (("a", True), ("texts", True), ("element", True), ("abcdefgh", True), ("", False),
                             ("abcdefghi", False), ("A", False), ("a1", False), (None, False), (True, False),
                             (2, False), (("a",), False), (["a"], False)):
            self.check(part(kind=kind), wanted)
            self.check(part(element(kind=kind)), wanted)

    def test_names_and_ties(self):
        for name, wanted in (("a", True), ("", True), ("abcdefgh", True), ("text", True), ("abcdefghi", False),
                             ("A", False), ("a ", False), ("a-b", False), (None, False), (False, False), (0, False),
                             ((), False), ([], False), (("a",), False)):
            self.check(part(name="intro", kind="sec", tie=name), wanted)
            self.check(part(element(tie=name)), wanted)
            self.check(part(element(name=name)), wanted)
            self.check(("intro", "", element(name=name)), wanted)
        self.check(part(element(tie="a"), element(tie="a"), PUT, tie="a"), True)

    def test_part_names(self):
        for name, wanted in (("a", True), ("abcdefgh", True), ("text", True), ("", False), ("abcdefghi", False),
                             ("A", False), (None, False), (True, False), (1, False), (("a",), False), (["a"], False)):
            self.check(part(name=name), wanted)

    def test_two_of_one_name(self):
        self.check(part(element(name="fig"), element(name="fig")), False)
        self.check(part(element(name="fig"), element(name="figs")), True)
        self.check(part(element(), element(), element(element())), True)
        self.check(part(element(element(element(name="fig"))), element(), element(element(name="fig"))), False)
        self.check(part(element(element(name="fig"), name="fig")), False)
        self.check(("intro", "", element(element(element(name="fig")), name="fig")), False)
        self.check(("fig", "", element(name="fig")), True)
        self.check(part(PUT, PUT, element(name="fig")), True)
        self.check(part(element(name="sec"), element(tie="fig"), element(name="fig")), True)

    def test_how_many_elements(self):
        self.check(part(*[element()] * 23), True)
        self.check(part(*[element()] * 24), False)
        self.check(part(*[element(element())] * 11), True)
        self.check(part(*[element(element())] * 11, element()), True)
        self.check(part(*[element(element())] * 12), False)
        self.check(part(*[element(name=name) for name in "abcdefghijklmnopqrstuvw"]), True)
        self.check(part(*[element()] * 23, PUT), True)
        self.check(part(*[element()] * 23, *[PUT] * 16), True)

    def test_how_many_things(self):
        for thing in PLAIN + (PUT,):
            self.check(part(*[thing] * 39), True)
            self.check(part(*[thing] * 40), False)
            self.check(part(element(*[thing] * 38)), True)
            self.check(part(element(*[thing] * 39)), False)
        self.check(part(*[element()] * 23, *[PUT] * 16), True)
        self.check(part(*[element()] * 23, *[PUT] * 17), False)
        self.check(part(element(*PLAIN * 6), element(*PLAIN * 6, TEXT)), True)
        self.check(part(element(*PLAIN * 6), element(*PLAIN * 6, TEXT, TEXT)), False)

    def test_how_deep(self):
        for deep, wanted in ((1, True), (2, True), (5, True), (6, True), (7, False), (8, False)):
            self.check(("intro", "", chain(deep)), wanted)
            for thing in PLAIN + (PUT,):
                self.check(("intro", "", chain(deep, thing)), wanted)
            self.check(part(PUT, chain(deep - 1) if deep > 1 else PUT, PUT), wanted)

    def test_whens(self):
        for when, facets, wanted in ((CHILD, FACETS_TWO, True), (CHILD, FACETS_ONE, True),
                                     (("is", "tongue", ("latin",)), FACETS_ONE, False),
                                     (("is", "tongue", ("latin",)), FACETS_FOUR, True),
                                     (("is", "who", ("latin",)), FACETS_TWO, False),
                                     (("is", "who", ()), FACETS_TWO, False), (("always", 1), FACETS_TWO, False),
                                     (nested(ALWAYS, lambda inner: ("not", inner), 3), FACETS_TWO, True),
                                     (nested(ALWAYS, lambda inner: ("not", inner), 4), FACETS_TWO, False),
                                     ("always", FACETS_TWO, False), (None, FACETS_TWO, False), ((), FACETS_TWO, False),
                                     (("none",), FACETS_TWO, False), (True, FACETS_TWO, False)):
            self.check(part(when=when), wanted, facets)
            self.check(part(element(when=when)), wanted, facets)
            self.check(part(element(element()), element(element(TEXT, when=when))), wanted, facets)

    def test_whole(self):
        root = element()
        for thing in (("intro", "title"), ("intro", "title", root, root), ("intro", root, "title"), root, (root,),
                      ("title", root), ("intro", "title", TEXT), ("intro", "title", PUT), ("intro", "title", ()),
                      ("intro", "title", None), ("intro", "title", (root,)), ("intro", "title", REF)):
            self.check(thing, False)

    def test_lists_for_tuples(self):
        whole = part(element(TEXT, REF, ENTRY, when=("not", CHILD)), PUT, element(element()))
        self.check(whole, True)
        for thing in as_list_at_each_depth(whole):
            self.check(thing, False)

    def test_things_of_any_kind(self):
        for inner in odd_things():
            self.check(inner, False)
            for thing in (part(inner), part(element(inner)), part(TEXT, inner), part(element(), inner),
                          ("intro", "", inner), ("intro", inner, element()) if inner not in odd_texts() else None,
                          part(("text", inner)) if inner not in odd_texts() else None, part(when=inner)):
                self.check(thing, False)
            self.check(("intro", "", ("sec", "", ALWAYS, "", inner)), inner == ())

    def test_by_names(self):
        self.assertIs(check_call(self, is_part, [("facets", FACETS_TWO), ("thing", part(TEXT))]), True)
        self.assertIs(check_call(self, is_part, [("facets", FACETS_TWO), ("thing", list(part(TEXT)))]), False)


def odd_texts():
    """Those of the odd things that are TEXTs."""
    return [thing for thing in odd_things() if isinstance(thing, str) and thing.isascii() and thing.isprintable()]


FIG = element(TEXT, ENTRY, kind="fig", name="fig", tie="pair")
NOTE = element(("text", "note"), REF, ("text", "some words"), kind="note", name="note", when=CHILD)
DEEP = element(NOTE, ("put", "third", ""), kind="sub")
BOOK = part(FIG, PUT, DEEP, element(kind="bare"), PUT)


class Walks(unittest.TestCase):
    def test_is_part(self):
        self.assertIs(is_part(FACETS_TWO, BOOK), True)

    def test_elements_of(self):
        self.assertEqual(elements_of(BOOK), [((), BOOK[2]), ((0,), FIG), ((2,), DEEP), ((2, 0), NOTE),
                                             ((3,), element(kind="bare"))])
        self.assertEqual(elements_of(part()), [((), element())])
        self.assertEqual(elements_of(part(*PLAIN)), [((), element(*PLAIN))])
        self.assertEqual(elements_of(part(PUT)), [((), element(PUT))])

    def test_things_of(self):
        self.assertEqual(things_of(BOOK, "text"), [((0, 0), TEXT), ((2, 0, 0), ("text", "note")), ((2, 0, 2), TEXT)])
        self.assertEqual(things_of(BOOK, "ref"), [((2, 0, 1), REF)])
        self.assertEqual(things_of(BOOK, "entry"), [((0, 1), ENTRY)])
        self.assertEqual(things_of(BOOK, "put"), [((1,), PUT), ((2, 1), ("put", "third", "")), ((4,), PUT)])
        for word in ("text", "ref", "entry", "put"):
            self.assertEqual(things_of(part(), word), [])
            self.assertEqual(things_of(part(element(kind="a", name=word, tie=word)), word), [])

    def test_named(self):
        self.assertEqual(named(BOOK, ""), BOOK[2])
        self.assertEqual(named(BOOK, "fig"), FIG)
        self.assertEqual(named(BOOK, "note"), NOTE)
        for name in ("intro", "other", "third", "sub", "pair", "sec", "text", "figs"):
            self.assertIsNone(named(BOOK, name), name)
        called = ("intro", "", element(FIG, element(), name="top"))
        self.assertEqual(named(called, ""), called[2])
        self.assertEqual(named(called, "top"), called[2])
        self.assertEqual(named(called, "fig"), FIG)
        self.assertIsNone(named(called, "intro"))
        self.assertIsNone(named(part(), "sec"))

    def test_paths_lead_to_what_is_told(self):
        for whole in (BOOK, ("intro", "", chain(6, *PLAIN)), part(*[element(PUT, element(*PLAIN))] * 6)):
            self.assertIs(is_part(FACETS_TWO, whole), True)
            pairs = elements_of(whole)
            for word in ("text", "ref", "entry", "put"):
                told = things_of(whole, word)
                self.assertTrue(all(thing[0] == word for _, thing in told))
                self.assertEqual([path for path, _ in told], sorted(path for path, _ in told))
                pairs += told
            self.assertEqual([path for path, _ in elements_of(whole)], sorted(path for path, _ in elements_of(whole)))
            for path, thing in pairs:
                self.assertEqual(self.at(whole[2], path), thing)
            self.assertEqual(len({path for path, _ in pairs}), self.many(whole[2]))
            self.assertEqual(len(pairs), self.many(whole[2]))

    def at(self, thing, path):
        for place in path:
            thing = thing[4][place]
        return thing

    def many(self, thing):
        inner = thing[4] if thing[0] not in ("text", "ref", "entry", "put") else ()
        return 1 + sum(self.many(other) for other in inner)

    def test_each_told_as_a_pair(self):
        for pair in elements_of(BOOK) + things_of(BOOK, "text"):
            self.assertIs(type(pair), tuple)
            self.assertIs(type(pair[0]), tuple)
            self.assertEqual(len(pair), 2)
        self.assertIs(type(elements_of(BOOK)), list)
        self.assertIs(type(things_of(BOOK, "ref")), list)

    def test_ten_and_more_beside_one_another(self):
        texts = tuple(("text", letter) for letter in "abcdefghijklm")
        self.assertEqual(things_of(part(*texts), "text"), [((at,), text) for at, text in enumerate(texts)])

    def test_by_chance_is_part_holds_of_what_is_told(self):
        chance = random.Random(79)
        for _ in range(100):
            whole = ("intro", "", self.some(chance, 4))
            if is_part(FACETS_TWO, whole):
                for _, told in elements_of(whole):
                    self.assertIs(is_part(FACETS_TWO, ("again", "", told)), True)

    def some(self, chance, deep):
        if deep == 1 or chance.random() < 0.3:
            return element(*[chance.choice(PLAIN) for _ in range(chance.randint(0, 3))])
        inner = [PUT if chance.random() < 0.3 else self.some(chance, deep - 1) for _ in range(chance.randint(0, 3))]
        return element(*inner)

    def test_by_names(self):
        check_call(self, elements_of, [("part", BOOK)])
        for word in ("text", "ref", "entry", "put"):
            check_call(self, things_of, [("part", BOOK), ("word", word)])
        for name in ("", "fig", "gone"):
            check_call(self, named, [("part", BOOK), ("name", name)])


if __name__ == "__main__":
    unittest.main()
