"""Promise [21]: PARTs as texts, and the rows that are not so written."""

import random
import unittest

from sheafbooks.errors import BadRow
from sheafbooks.parts import is_part
from sheafbooks.texts import part_in, part_text
from sheafbooks.whens import is_when
from tests.common import ALL_FACETS, FACETS_ONE, FACETS_TWO, check_call, check_refused, nested
from tests.samples import ALWAYS, element, part, parts_of, some_when

SMALL = (("intro", "On books", element(("text", "Books are bound."))),
         "part intro On books\n. sec - - always\n.. text Books are bound.")
CHILD = ("is", "who", ("child",))
WHOLE = ("whole", "A  title ", element(
    element(("text", ""), ("ref", "intro", "", "title"), ("ref", "b", "x", "number"), ("entry", "ink", ""),
            ("entry", " red ink", "a/b/ c "), ("text", " two  blanks "), name="first", tie="t", kind="para"),
    ("put", "b", ""), ("put", "b", "x"),
    element(element(element(), when=("not", CHILD)), name="x", when=("both", ALWAYS, ("either", CHILD, CHILD))),
    element(tie="t"), name="root"))
WHOLE_TEXT = """part whole A  title\x20
. sec root - always
.. para first t always
... text\x20
... ref intro - title
... ref b x number
... entry ink/
... entry  red ink/a/b/ c\x20
... text  two  blanks\x20
.. put b -
.. put b x
.. sec x - both always either is who child is who child
... sec - - not is who child
.... sec - - always
.. sec - t always"""


def root_row(when):
    return f"part a T\n. sec - - {when}"


class Written(unittest.TestCase):
    def check(self, facets, some, text):
        self.assertIs(is_part(facets, some), True)
        self.assertEqual(part_text(some), text)
        told = part_in(facets, text)
        self.assertEqual(repr(told), repr(some))

    def test_small(self):
        self.check(FACETS_ONE, *SMALL)
        self.check(FACETS_ONE, part(name="a", title="T"), "part a T\n. sec - - always")

    def test_whole(self):
        self.check(FACETS_ONE, WHOLE, WHOLE_TEXT)

    def test_bare_texts_titles_and_subs(self):
        self.check(FACETS_ONE, ("a", "", element(("text", ""), ("entry", "m", ""))),
                   "part a \n. sec - - always\n.. text \n.. entry m/")
        self.check(FACETS_ONE, ("a", " ", element(("text", " "), ("entry", " ", " "))),
                   "part a  \n. sec - - always\n.. text  \n.. entry  / ")

    def test_mains_and_subs(self):
        for main, sub in (("a b", "c d"), (" a", " b "), ("a", "/"), ("a", "//"), ("a", "b/c"), ("a", "/b"), ("-", "-"),
                          ("a" * 20, "b" * 20), ("text", "entry x/y")):
            self.check(FACETS_ONE, ("a", "T", element(("entry", main, sub))),
                       f"part a T\n. sec - - always\n.. entry {main}/{sub}")

    def test_texts_and_titles_of_any_signs(self):
        for text in ("a" * 40, "-", ". sec - - always", "part b T", "| part", "<k>", "\\n", "a/b", "always", "  "):
            self.check(FACETS_ONE, ("a", text, element(("text", text))), f"part a {text}\n. sec - - always\n.. text {text}")

    def test_whens(self):
        facets = (("always", ("is", "not")), ("not", ("always", "both", "either")))
        for when, words in ((ALWAYS, "always"), (("is", "always", ("is",)), "is always is"),
                            (("is", "not", ("always", "both", "either")), "is not always,both,either"),
                            (("not", ("is", "not", ("always",))), "not is not always"),
                            (("both", ("not", ALWAYS), ALWAYS), "both not always always"),
                            (("either", ("is", "not", ("both",)), ("both", ALWAYS, ("not", ALWAYS))),
                             "either is not both both always not always"),
                            (nested(ALWAYS, lambda x: ("not", x), 3), "not not not always")):
            self.check(facets, ("a", "T", element(when=when)), root_row(words))

    def test_the_greatest_when(self):
        words = tuple(name * 8 for name in "abcd")
        facets = tuple((name * 8, words) for name in "efgh")
        leaf = ("is", "e" * 8, words)
        when = ("both", ("either", leaf, leaf), ("both", leaf, ("not", leaf)))
        self.assertEqual(parts_of(when), 8)
        self.check(facets, ("a", "T", element(when=when)),
                   root_row(f"both either {'is eeeeeeee ' + ','.join(words)} {'is eeeeeeee ' + ','.join(words)} "
                            f"both {'is eeeeeeee ' + ','.join(words)} not {'is eeeeeeee ' + ','.join(words)}"))

    def test_parts_at_their_bounds(self):
        many = part(*[element() for _ in range(23)], name="abcdefgh", title="T" * 40)
        self.check(FACETS_ONE, many, f"part abcdefgh {'T' * 40}\n. sec - - always" + "\n.. sec - - always" * 23)
        full = part(*[("put", "b", "")] * 39)
        self.check(FACETS_ONE, full, "part intro On books\n. sec - - always" + "\n.. put b -" * 39)
        deep = ("a", "T", nested(element(("text", "x")), element, 5))
        rows = "".join(f"\n{'.' * deep} sec - - always" for deep in range(1, 7))
        self.check(FACETS_ONE, deep, f"part a T{rows}\n....... text x")
        self.check(FACETS_ONE, ("a", "T", nested(element(("put", "b", "")), element, 5)), f"part a T{rows}\n....... put b -")

    def test_by_chance(self):
        chance = random.Random(409)
        told = 0
        for _ in range(400):
            facets = chance.choice(ALL_FACETS)
            some = some_part(chance, facets)
            if is_part(facets, some):
                told += 1
                self.assertEqual(repr(part_in(facets, part_text(some))), repr(some))
        self.assertTrue(told > 150, told)

    def test_by_names(self):
        check_call(self, part_text, [("part", WHOLE)])
        check_call(self, part_in, [("facets", FACETS_ONE), ("text", WHOLE_TEXT)])


def some_part(chance, facets):
    """A PART, maybe beyond some bound."""
    names = list("abcdefghijklmnop")
    chance.shuffle(names)

    def inner(deep):
        when = some_when(chance, facets, 3) if chance.random() < 0.3 else ALWAYS
        name = names.pop() if names and chance.random() < 0.4 else ""
        things = []
        if deep < 6 and chance.random() < 0.6:
            things = [inner(deep + 1) if chance.random() < 0.7 else ("put", "b", chance.choice(("", "x")))
                      for _ in range(chance.randint(0, 4))]
        else:
            things = [chance.choice((("text", chance.choice(("", " ", "a b", "."))), ("ref", "b", "", "title"),
                                     ("entry", chance.choice(("m", " ")), chance.choice(("", "s/", " "))),
                                     ("ref", "b", "x", "number"))) for _ in range(chance.randint(0, 3))]
        return element(*things, kind=chance.choice(("sec", "para")), name=name, when=when, tie=chance.choice(("", "", "t")))
    return ("part", "T", inner(1))


class BadRows(unittest.TestCase):
    def check(self, wanted, text, facets=FACETS_ONE):
        check_refused(self, BadRow, wanted, part_in, [("facets", facets), ("text", text)])

    def test_bare(self):
        self.check(0, "")
        self.check(0, "\n")
        self.check(0, "\n" + SMALL[1])
        self.check(3, SMALL[1] + "\n")
        self.check(2, "part a T\n. sec - - always\n\n.. text x")
        self.check(1, "part a T\n")

    def test_a_row_that_lacks(self):
        self.check(1, "part a T")
        self.check(1, "part a ")

    def test_head(self):
        for row in ("part", "part ", "part a", "part  T", "Part a T", "part A T", "part - T", "part abcdefghi T", " part a T",
                    "part a1 T", "parts a T", "a T", ". part a T", "| part a T", "part\ta T", "part a_b T", ".", "sec - - always",
                    "part a " + "T" * 41, "part a 5%", "part a \t", "part a \u00e9", "text part a"):
            self.check(0, f"{row}\n. sec - - always")
            self.check(0, row)

    def test_root(self):
        for row in (".. sec - - always", "sec - - always", " . sec - - always", ". text x", ". put b -", ". ref b - title",
                    ". entry a/b", "", ".", ". ", ".sec - - always", "part b T", "... sec - - always", "| . sec - - always",
                    ", sec - - always", ".\tsec - - always", ".  sec - - always"):
            self.check(1, f"part a T\n{row}")
            self.check(1, f"part a T\n{row}\n.. sec - - always")

    def test_elements(self):
        for row in ("sec", "sec ", "sec -", "sec - -", "sec - - ", "sec -  always", "sec  - always", "sec - always",
                    "sec - - - always", "sec - - always ", "sec - -  always", " sec - - always", "Sec - - always",
                    "sec A - always", "sec - A always", "sec a1 - always", "abcdefghi - - always", "- - - always",
                    "sec abcdefghi - always", "sec -- - always", "sec - -- always", "sec \"\" - always", "sec - - Always",
                    "sec - -", "put - - always", "text", "entry - - always", "ref - - always", "sec - - always x"):
            self.check(1, f"part a T\n. {row}")
            self.check(2, f"part a T\n. sec - - always\n.. {row}")

    def test_whens_that_are_none(self):
        for words in ("", "alway", "is", "is who", "is who ", "is who child grown", "is who grown,child", "is who child,child",
                      "is who child,", "is who ,child", "is who child, grown", "is what child", "is who dutch", "is  who child",
                      "not", "not not", "both", "both always", "both always ", "both always always always", "either always",
                      "either", "not always always", "always always", "and always always", "not  always", "is who -", "who child",
                      "(always)", "not(always)", "never", "not not not not always", "both always both always both always not always",
                      "is", "both is who child", "is child who", "is who child,grown,other", "IS who child"):
            self.check(1, root_row(words))
            self.check(2, f"part a T\n. sec - - always\n.. sec - - {words}\n.. sec - - always")

    def test_whens_beyond_the_bounds(self):
        eight = ("both", ("both", ALWAYS, ALWAYS), ("either", ALWAYS, ("not", ALWAYS)))
        self.assertEqual((parts_of(eight), is_when(FACETS_ONE, eight)), (8, True))
        words = "both both always always either always not always"
        self.assertEqual(part_in(FACETS_ONE, root_row(words)), ("a", "T", element(when=eight)))
        self.check(1, root_row("both both always not always either always not always"))
        self.check(1, root_row("not " * 4 + "always"))
        self.check(1, root_row("not " * 3000 + "always"))
        self.check(1, root_row("both " * 3000 + "always"))

    def test_facets_are_those_handed_in(self):
        text = root_row("is tongue dutch,latin")
        self.assertEqual(part_in(FACETS_TWO, text)[2][2], ("is", "tongue", ("dutch", "latin")))
        self.check(1, text)

    def test_texts(self):
        for row in ("text", "text\tx", "text " + "x" * 41, "text %", "text \x7f", "Text x", "texts x", " text x", "text x\r"):
            self.check(2, f"part a T\n. sec - - always\n.. {row}")

    def test_refs_and_puts(self):
        for row in ("ref", "ref b", "ref b -", "ref b - ", "ref b x", "ref b - Title", "ref b - title ", "ref b  title",
                    "ref  - title", "ref - x title", "ref B - title", "ref b X title", "ref b - number x", "ref b - how",
                    "ref abcdefghi - title", "ref b abcdefghi title", "put", "put b", "put b ", "put b - -", "put - x", "put B -",
                    "put b X", "put b  -", "put  b -", "put b x ", "put abcdefghi -", "put b.x", "put b \"\"", "put - -"):
            self.check(2, f"part a T\n. sec - - always\n.. {row}")

    def test_entries(self):
        for row in ("entry", "entry ", "entry a", "entry /", "entry /b", "entry " + "a" * 21 + "/", "entry a/" + "b" * 21,
                    "entry a%/b", "entry a/%", "entry //b", "Entry a/b", "entry\ta/b", "entry/a"):
            self.check(2, f"part a T\n. sec - - always\n.. {row}")

    def test_dots(self):
        head = "part a T\n. sec - - always\n.. sec - - always\n"
        for row in (". sec - - always", ". text x", ".... sec - - always", ".... text x", "..... put b -", "sec - - always",
                    "..text x", ".., text x", "..  text x", " .. text x", "...", "... ", "." * 200 + " text x", ". . text x",
                    "--- text x", "text x"):
            self.check(3, head + row)
            self.check(3, head + row + "\n" + row)
        self.assertTrue(is_part(FACETS_ONE, part_in(FACETS_ONE, head + "... text x")))
        self.check(4, head + "... text x\n.... text x")
        self.check(4, head + "... put b -\n.... sec - - always")
        self.check(4, head + "... put b -\n.... text x")

    def test_back_up_by_many(self):
        text = "part a T\n. sec - - always\n.. sec - - always\n... sec - - always\n.... text x\n.. sec - - always\n... text y"
        x, y = ("text", "x"), ("text", "y")
        self.assertEqual(part_in(FACETS_ONE, text), ("a", "T", element(element(element(x)), element(y))))
        self.check(7, text + "\n..... text z")
        self.check(7, text + "\n.... text z")

    def test_things_that_may_not_stand_together(self):
        head = "part a T\n. sec - - always\n"
        for one in (".. text x", ".. ref b - title", ".. entry a/b"):
            for other in (".. sec - - always", ".. put b -"):
                self.check(3, head + one + "\n" + other)
                self.check(3, head + other + "\n" + one)
                self.check(4, head + other + "\n" + other + "\n" + one)
        self.check(5, head + ".. sec - - always\n... text x\n.. put b -\n.. text y")

    def test_a_name_that_is_there_twice(self):
        self.check(2, "part a T\n. sec x - always\n.. sec x - always")
        self.check(4, "part a T\n. sec - - always\n.. sec x - always\n.. sec - x always\n.. sec x - always\n.. sec y - always")
        self.check(4, "part a T\n. sec - - always\n.. sec x - always\n... sec - - always\n.... sec x - always")
        self.assertTrue(part_in(FACETS_ONE, "part a T\n. sec a - always\n.. sec - - always\n.. sec - - always"))

    def test_too_many_elements(self):
        head = "part a T\n. sec - - always" + "\n.. sec - - always" * 23
        self.assertEqual(len(part_in(FACETS_ONE, head)[2][4]), 23)
        self.check(25, head + "\n.. sec - - always")
        self.check(25, head + "\n... sec - - always\n.. nonsense")
        self.assertEqual(len(part_in(FACETS_ONE, head + "\n.. put b -")[2][4]), 24)

    def test_too_many_things(self):
        head = "part a T\n. sec - - always" + "\n.. text x" * 39
        self.assertEqual(len(part_in(FACETS_ONE, head)[2][4]), 39)
        self.check(41, head + "\n.. text x")
        self.check(41, head + "\n.. text x" * 150)

    def test_too_deep(self):
        rows = ["part a T"] + [f"{'.' * deep} sec - - always" for deep in range(1, 9)]
        self.assertTrue(part_in(FACETS_ONE, "\n".join(rows[:7])))
        self.check(7, "\n".join(rows[:8]))
        self.check(7, "\n".join(rows))

    def test_the_first_of_several(self):
        self.check(0, "part A T\n. Sec")
        self.check(1, "part a T\n. Sec - - always\nnonsense")
        self.check(3, "part a T\n. sec - - always\n.. text x\n.. sec - - always\nnonsense")
        self.check(3, "part a T\n. sec - - always\n.. text x\nnonsense\n.. sec - - always")

    def test_line_feeds_alone_part_rows(self):
        for sign in ("\r", "\x0b", "\x0c", "\x1c", "\x85", "\u2028"):
            self.check(0, SMALL[1].replace("\n", sign))
        self.check(0, SMALL[1].replace("\n", "\r\n"))

    def test_whatever_is_read_is_written_so(self):
        """Rows of few words by chance: just those are read that part_text writes."""
        chance = random.Random(419)
        pool = (". sec - - always", ".. sec x - always", ".. text x", "... text ", "... put b -", ".. put b x", "...  text",
                "... entry a/b", ".. para - t not always", "... sec - - is who child,grown", "part a T", ".. ref b - title")
        read = refused = 0
        for _ in range(3000):
            rows = ["part a T", ". sec - - always"] + chance.choices(pool, k=chance.randint(0, 5))
            text = "\n".join(rows)
            try:
                told = part_in(FACETS_ONE, text)
                read += 1
                self.assertEqual(part_text(told), text)
                self.assertIs(is_part(FACETS_ONE, told), True)
            except BadRow as error:
                refused += 1
                ahead = "\n".join(rows[:error.what])
                self.assertEqual(part_text(part_in(FACETS_ONE, ahead)), ahead)
        self.assertTrue(read > 200 and refused > 200, (read, refused))


if __name__ == "__main__":
    unittest.main()
