"""Promises [19], [20] and, over the whole program, [1]: class House."""

import copy
import random
import unittest

from sheafbooks.books import book_of
from sheafbooks.errors import InUse, NoDeed, NoEdition, NoForm, NoNode, NoPart, There, Unlawful, Unsound
from sheafbooks.house import House
from sheafbooks.indexes import index_of
from sheafbooks.judging import judged
from sheafbooks.keys import shows_key_ring
from sheafbooks.maker import Maker
from sheafbooks.plans import nodes_of
from sheafbooks.puts import how_great, put_in, shows_ring
from sheafbooks.refs import lost_refs
from tests.common import FACETS_ONE, check_refused, lists_in
from tests.houses import (A, B, C, CHILD, FACETS, FORMS, FOUL, GROWN, LOOSE, ODD, TIED, Account, asks_of, fig, made_anew,
                          para, some_deed)
from tests.samples import ALWAYS, element, node

CHILD_SETTING = ("dutch", "child")
GROWN_SETTING = ("latin", "grown")
DEEDS = ("part", "drop", "node", "unnode", "set_keys", "edition", "end")


def house_of(*parts, forms=FORMS, **more):
    house = House(FACETS, forms, **more)
    for part in parts:
        house.part(part)
    return house


def full_house():
    """A house of three parts, four nodes more, two editions."""
    house = house_of(A, B, C)
    house.node("one", "book", part="a")
    house.node("two", "book", part="b", when=CHILD)
    house.node("in", "two", part="c")
    house.node("last", "book", part="a")
    house.set_keys("book", (("k", "ink"), ("l", "<k>s")))
    house.edition("kids", "loose", CHILD_SETTING)
    house.edition("folk", "loose", GROWN_SETTING)
    return house


def plan_of(house):
    return [name for name, _ in nodes_of(house.plan())]


class Houses(unittest.TestCase):
    def refused(self, house, error, what, deed, *args, **more):
        """Refused, nothing changed by it but the log, which has both its ends."""
        before, log, deeds, twin = asks_of(house), house.log(), house.deeds(), house.twin()
        with self.assertRaises(error) as caught:
            getattr(house, deed)(*args, **more)
        self.assertIs(type(caught.exception), error)
        self.assertEqual((caught.exception.what, type(caught.exception.what)), (what, type(what)))
        self.assertEqual((asks_of(house), house.deeds()), (before, deeds))
        self.assertTrue(house == twin)
        self.assertEqual(house.log(), log + [("in", deed), ("out", deed)])
        self.assertIs(house.is_open(), True)


class Begun(Houses):
    def test_without_top(self):
        house = House(FACETS, FORMS)
        self.assertEqual(asks_of(house), ([], ("book", "", ALWAYS, (), ()), [], [], [], []))
        self.assertEqual((house.deeds(), house.log(), house.is_open(), len(house)), (0, [], True, 0))

    def test_with_top(self):
        self.assertEqual(House(FACETS, FORMS, top="other").plan(), ("other", "", ALWAYS, (), ()))
        house = House(forms=FORMS, top="x", facets=FACETS)
        house.node("book", "x")
        self.assertEqual(plan_of(house), ["x", "book"])

    def test_top_by_its_name_alone(self):
        with self.assertRaises(TypeError):
            House(FACETS, FORMS, "other")

    def test_one_form(self):
        house = House(FACETS_ONE, (("a", (), ()),))
        house.edition("e", "a", ("child",))
        self.assertEqual(house.make(), [("e", [])])
        self.assertEqual(house.rows("e"), [])


class Part(Houses):
    def test_it_stands(self):
        house = House(FACETS, FORMS)
        self.assertIsNone(house.part(C))
        self.assertIsNone(house.part(part=A))
        self.assertEqual((house.parts(), len(house), house.deeds()), ([A, C], 2, 2))

    def test_in_the_place_of_one_of_its_name(self):
        house = house_of(A, C)
        other = ("a", "Other", element())
        house.part(other)
        self.assertEqual((house.parts(), len(house), house.deeds()), ([other, C], 2, 3))

    def test_the_same_again_is_a_deed(self):
        house = house_of(A, A)
        self.assertEqual((house.parts(), house.deeds()), ([A], 2))

    def test_unsound(self):
        house = house_of(C)
        self.refused(house, Unsound, ("put", ("b", (1,), ("put", "a", "f"))), "part", B)
        house = house_of(A, B)
        self.refused(house, Unsound, ("put", ("b", (1,), ("put", "a", "f"))), "part", ("a", "On", element(fig())))
        ring = ("r", "Ring", element(element(("put", "r", "x"), name="x")))
        self.refused(house, Unsound, ("ring", [("r", "x")]), "part", ring)

    def test_unsound_of_a_ring_over_parts(self):
        house = house_of(("p", "", element()), ("q", "", element(("put", "p", ""))))
        with self.assertRaises(Unsound) as caught:
            house.part(("p", "", element(("put", "q", ""))))
        word, ring = caught.exception.what
        self.assertEqual((word, sorted(ring)), ("ring", [("p", ""), ("q", "")]))
        self.assertIs(shows_ring([("p", "", element(("put", "q", ""))), ("q", "", element(("put", "p", "")))], ring), True)

    def test_unsound_of_one_too_great(self):
        eight = ("m", "", element(*[element()] * 7))
        great = ("z", "", element(*[("put", "m", "")] * 10))
        self.refused(house_of(eight), Unsound, ("great", "z"), "part", great)
        nine = ("z", "", element(*[("put", "m", "")] * 9))
        house = house_of(eight, nine)
        self.assertEqual(how_great(house.parts(), "z"), (73, 3))
        self.refused(house, Unsound, ("great", "z"), "part", ("m", "", element(*[element()] * 9)))

    def test_parts_by_rising_names(self):
        """Of two that are too great, or two lost puts, the one of the lesser name is told, whichever came first."""
        for first, second in (("p", "q"), ("q", "p")):
            eight = ("m", "", element(*[element()] * 7))
            house = house_of(eight, *[(name, "", element(*[("put", "m", "")] * 9)) for name in (first, second)])
            self.refused(house, Unsound, ("great", "p"), "part", ("m", "", element(*[element()] * 9)))
            house = house_of(("m", "", element(fig(name="f"))),
                             *[(name, "", element(("put", "m", "f"))) for name in (first, second)])
            self.refused(house, Unsound, ("put", ("p", (0,), ("put", "m", "f"))), "part", ("m", "", element()))
            self.refused(house, Unsound, ("put", ("p", (0,), ("put", "m", "f"))), "drop", "m")

    def test_unlawful(self):
        house = house_of(A)
        house.node("one", "book", part="a")
        house.edition("e", "narrow", CHILD_SETTING)
        self.refused(house, Unlawful, ("e", "one"), "part", ("a", "", element(fig(), para())))
        house.part(("a", "", element(para(), fig(), fig())))

    def test_lawful_in_its_own_setting_alone(self):
        house = house_of(FOUL)
        house.node("one", "book", part="foul")
        house.edition("e", "narrow", GROWN_SETTING)
        self.refused(house, Unlawful, ("f", "one"), "edition", "f", "narrow", CHILD_SETTING)
        house.edition("f", "loose", CHILD_SETTING)

    def test_a_part_that_stands_in_no_book_may_be_unlawful(self):
        house = house_of(A)
        house.edition("e", "wordy", CHILD_SETTING)
        house.node("one", "book", part="a", when=GROWN)
        house.part(ODD)
        self.assertEqual(len(house), 2)
        self.refused(house, Unlawful, ("g", "one"), "edition", "g", "wordy", GROWN_SETTING)

    def test_what_is_not_left_is_judged_too(self):
        """Elements that are not left still are elements among an element's things, and a tie is parted by them."""
        house = house_of(("w", "", para(para(when=("not", ALWAYS)))), TIED)
        house.node("one", "book", part="w")
        self.refused(house, Unlawful, ("e", "one"), "edition", "e", "loose", CHILD_SETTING)
        house.unnode("one")
        house.node("one", "book", part="tied")
        self.refused(house, Unlawful, ("e", "one"), "edition", "e", "loose", CHILD_SETTING)
        house.edition("e", "loose", GROWN_SETTING)

    def test_unlawful_by_what_is_put_in(self):
        house = house_of(("p", "", element(para(name="x"))), ("q", "", element(("put", "p", "x"))))
        house.node("one", "book", part="q")
        house.edition("e", "narrow", CHILD_SETTING)
        self.refused(house, Unlawful, ("e", "one"), "part", ("p", "", element(fig(name="x"))))

    def test_the_first_edition_and_the_first_chapter(self):
        house = house_of(A, C)
        for name in ("zwei", "one", "in"):
            house.node(name, "book", part="a")
        house.node("deep", "zwei", part="c")
        house.edition("b", "narrow", CHILD_SETTING)
        house.edition("a", "loose", CHILD_SETTING)
        house.edition("c", "narrow", GROWN_SETTING)
        foul = ("a", "", element(fig(), para()))
        self.refused(house, Unlawful, ("b", "zwei"), "part", foul)
        house.end("b")
        self.refused(house, Unlawful, ("c", "zwei"), "part", foul)
        self.refused(house, Unlawful, ("c", "deep"), "part", ("c", "", element(fig())))
        self.refused(house, Unlawful, ("a", "zwei"), "part", ("a", "", element(element(), kind="note")))


class Drop(Houses):
    def test_it_goes(self):
        house = house_of(A, C)
        self.assertIsNone(house.drop("a"))
        self.assertEqual((house.parts(), len(house)), ([C], 1))
        self.assertIsNone(house.drop(name="c"))
        self.assertEqual(house.parts(), [])

    def test_refused(self):
        house = house_of(A, B, C)
        self.refused(house, NoPart, "gone", "drop", "gone")
        self.refused(House(FACETS, FORMS), NoPart, "a", "drop", "a")
        self.refused(house, Unsound, ("put", ("b", (1,), ("put", "a", "f"))), "drop", "a")
        house.node("one", "book", part="c")
        self.refused(house, Unsound, ("node", "one"), "drop", "c")
        self.refused(house, NoPart, "gone", "drop", name="gone")


class Node(Houses):
    def test_it_stands_behind_all(self):
        house = house_of(A)
        self.assertIsNone(house.node("one", "book"))
        house.node("two", "book", part="a")
        house.node("in", "one", when=CHILD)
        house.node(above="book", when=GROWN, part="a", name="three")
        self.assertEqual(house.plan(), node("book", node("one", node("in", when=CHILD)), node("two", part="a"),
                                            node("three", part="a", when=GROWN)))

    def test_at_a_place(self):
        house = House(FACETS, FORMS)
        house.node("a", "book", place=0)
        house.node("b", "book", place=1)
        house.node("c", "book", place=0)
        house.node("d", "book", place=1)
        house.node("e", "book", place=None)
        house.node("f", "book", place=5)
        house.node("g", "d", place=0)
        self.assertEqual(plan_of(house), ["book", "c", "d", "g", "a", "b", "e", "f"])

    def test_by_names_alone(self):
        for args in (("one", "book", ""), ("one", "book", "", ALWAYS), ("one", "book", "", ALWAYS, 0)):
            with self.assertRaises(TypeError):
                House(FACETS, FORMS).node(*args)

    def test_refused(self):
        house = full_house()
        self.refused(house, NoNode, "gone", "node", "new", "gone")
        self.refused(house, There, "one", "node", "one", "book")
        self.refused(house, There, "book", "node", "book", "one")
        self.refused(house, There, "in", "node", "in", "in")
        self.refused(house, Unsound, ("node", "new"), "node", "new", "book", part="gone")
        self.refused(house, Unsound, ("node", "new"), "node", "new", "book", part="gone", when=("not", ALWAYS))

    def test_own_ones_ahead_of_unsound_that_ahead_of_unlawful(self):
        house = full_house()
        self.refused(house, NoNode, "gone", "node", "one", "gone", part="lost")
        self.refused(house, There, "one", "node", "one", "two", part="lost")
        house.part(ODD)
        self.refused(house, There, "one", "node", "one", "two", part="odd")
        self.refused(house, Unlawful, ("folk", "new"), "node", "new", "book", part="odd")
        self.refused(house, Unlawful, ("kids", "new"), "node", "new", "two", part="odd")
        bad = ("b", "", element(("put", "gone", ""), kind="note"))
        self.refused(house, Unsound, ("put", ("b", (0,), ("put", "gone", ""))), "part", bad)
        house.node("new", "book", part="odd", when=("not", ALWAYS))

    def test_the_first_such_chapter_by_the_plan(self):
        house = house_of(ODD)
        house.node("one", "book", part="odd")
        house.node("nought", "book", part="odd", place=0)
        self.refused(house, Unlawful, ("e", "nought"), "edition", "e", "loose", CHILD_SETTING)


class Unnode(Houses):
    def test_it_goes(self):
        house = full_house()
        self.assertIsNone(house.unnode("in"))
        self.assertIsNone(house.unnode(name="two"))
        self.assertEqual(plan_of(house), ["book", "one", "last"])
        self.assertEqual(house.plan()[3], (("k", "ink"), ("l", "<k>s")))

    def test_refused(self):
        house = full_house()
        self.refused(house, NoNode, "gone", "unnode", "gone")
        self.refused(house, InUse, "book", "unnode", "book")
        self.refused(house, InUse, "two", "unnode", "two")
        bare = House(FACETS, FORMS, top="top")
        self.refused(bare, InUse, "top", "unnode", "top")
        self.refused(bare, NoNode, "book", "unnode", name="book")


class SetKeys(Houses):
    def test_these_alone_stand(self):
        house = full_house()
        self.assertIsNone(house.set_keys("one", (("k", "K"), ("a", ""))))
        house.set_keys(keys=(("z", "Z"), ("k", "<z>")), node="book")
        self.assertEqual(house.plan()[3], (("z", "Z"), ("k", "<z>")))
        self.assertEqual(house.plan()[4][0][3], (("k", "K"), ("a", "")))
        house.set_keys("book", ())
        self.assertEqual(house.plan()[3], ())
        self.assertEqual(plan_of(house), ["book", "one", "two", "in", "last"])

    def test_a_list_of_keys_is_not_kept(self):
        house = House(FACETS, FORMS)
        keys = [("k", "K")]
        house.set_keys("book", keys)
        keys.append(("l", "L"))
        self.assertEqual(house.plan(), node("book", keys=[("k", "K")]))

    def test_refused(self):
        house = full_house()
        self.refused(house, NoNode, "gone", "set_keys", "gone", (("k", "<k>"),))
        self.refused(house, Unsound, ("keys", [("one", "k")]), "set_keys", "one", (("k", "<k>"),))
        long = (("a", "x" * 40), ("b", "<a>" * 10), ("c", "<b>."))
        self.refused(house, Unsound, ("long", "in", "c"), "set_keys", "in", long)
        with self.assertRaises(Unsound) as caught:
            house.set_keys("two", (("p", "<q>"), ("q", "<p>")))
        plan = node("book", node("two", keys=[("p", "<q>"), ("q", "<p>")]))
        self.assertIs(shows_key_ring(plan, caught.exception.what[1]), True)

    def test_fewer_keys_may_be_unsound(self):
        """Without its own key a node's other key reads the one above, which makes it too long."""
        house = House(FACETS, FORMS)
        house.set_keys("book", (("a", "x" * 40), ("b", "<a>" * 10)))
        house.node("one", "book")
        house.set_keys("one", (("b", ""), ("c", "<b>.")))
        self.refused(house, Unsound, ("long", "one", "c"), "set_keys", "one", (("c", "<b>."),))


class Edition(Houses):
    def test_it_begins_and_ends(self):
        house = full_house()
        self.assertEqual(house.editions(), [("folk", "loose", GROWN_SETTING), ("kids", "loose", CHILD_SETTING)])
        self.assertIsNone(house.end("folk"))
        self.assertIsNone(house.edition(setting=("latin", "child"), form="loose", name="b"))
        self.assertEqual(house.editions(), [("b", "loose", ("latin", "child")), ("kids", "loose", CHILD_SETTING)])
        self.assertIsNone(house.end(name="b"))
        house.end("kids")
        self.assertEqual(house.editions(), [])

    def test_refused(self):
        house = full_house()
        self.refused(house, There, "kids", "edition", "kids", "gone", GROWN_SETTING)
        self.refused(house, NoForm, "gone", "edition", "new", "gone", GROWN_SETTING)
        self.refused(house, NoEdition, "gone", "end", "gone")
        self.refused(house, Unlawful, ("new", "one"), "edition", "new", "wordy", GROWN_SETTING)
        self.refused(house, There, "kids", "edition", "kids", "wordy", GROWN_SETTING)
        house.end("kids")
        self.refused(house, NoEdition, "kids", "end", name="kids")

    def test_its_maker_begins_with_it(self):
        house = full_house()
        house.make()
        house.end("folk")
        house.edition("folk", "loose", GROWN_SETTING)
        self.assertIsNone(house.rows("folk"))
        self.assertEqual(house.make(), [("folk", ["one", "last"]), ("kids", [])])

    def test_counts_of_its_form(self):
        house = house_of(A)
        house.node("one", "book", part="a")
        house.edition("p", "loose", CHILD_SETTING)
        house.edition("q", "narrow", CHILD_SETTING)
        house.make()
        self.assertEqual(house.rows("p"), ["1 On <k>", "sec", "para 1-1: By <k>?", "fig 1-1", "ink: 1"])
        self.assertEqual(house.rows("q"), ["1 On <k>", "sec", "para: By <k>?", "fig 1", "ink: 1"])


class Make(Houses):
    def test_rows_ahead_and_behind(self):
        house = full_house()
        self.assertEqual([house.rows("kids"), house.rows("folk")], [None, None])
        told = house.make()
        self.assertEqual(told, [("folk", ["one", "last"]), ("kids", ["one", "two", "in", "last"])])
        self.assertEqual([type(one) for one in told] + [type(one[1]) for one in told], [tuple, tuple, list, list])
        self.assertEqual(house.rows("folk"), ["1 On ink", "sec", "para 1-1: By ink?", "fig 1-1", "2 On ink", "sec",
                                              "para 2-1: By ink?", "fig 2-1", "ink: 1, 2"])
        self.assertEqual(house.make(), [("folk", []), ("kids", [])])

    def test_rows_as_made_last(self):
        house = full_house()
        house.make()
        before = [house.rows("kids"), house.rows("folk")]
        house.set_keys("book", (("k", "pulp"), ("l", "<k>s")))
        house.part(("c", "Other", C[2]))
        self.assertEqual([house.rows("kids"), house.rows("folk")], before)
        self.assertEqual(house.book("folk")[0][3], "On pulp")
        self.assertEqual(house.make(), [("folk", ["one", "last"]), ("kids", ["one", "two", "in", "last"])])
        self.assertEqual(house.rows("folk")[0], "1 On pulp")

    def test_just_what_reads_otherwise(self):
        house = full_house()
        house.make()
        house.set_keys("one", (("k", "pulp"),))
        self.assertEqual(house.make(), [("folk", ["one"]), ("kids", ["one", "two"])])
        house.part(("c", "Other", C[2]))
        self.assertEqual(house.make(), [("folk", []), ("kids", ["in"])])
        house.node("new", "book", part="c", when=GROWN, place=0)
        self.assertEqual(house.make(), [("folk", ["new", "one", "last"]), ("kids", [])])
        house.unnode("last")
        self.assertEqual(house.make(), [("folk", []), ("kids", [])])
        house.node("last", "book", part="a")
        self.assertEqual(house.make(), [("folk", ["last"]), ("kids", ["last"])])

    def test_none(self):
        house = house_of(A)
        self.assertEqual((house.make(), house.deeds()), ([], 2))
        house.edition("e", "loose", CHILD_SETTING)
        self.assertEqual((house.make(), house.rows("e")), ([("e", [])], []))


class Undo(Houses):
    def test_none(self):
        house = House(FACETS, FORMS)
        self.assertIs(house.undo(), False)
        self.assertEqual(house.log(), [("in", "undo"), ("out", "undo")])
        self.assertEqual(house.deeds(), 0)

    def test_each_deed(self):
        for word, args in (("part", (("n", "New", element()),)), ("part", (("a", "New", A[2]),)), ("drop", ("free",)),
                           ("node", ("new", "one")), ("unnode", ("last",)), ("set_keys", ("one", (("k", "K"),))),
                           ("set_keys", ("book", ())), ("edition", ("new", "loose", CHILD_SETTING)), ("end", ("kids",)),
                           ("make", ())):
            house = full_house()
            house.part(("free", "", element()))
            for made in (False, True):
                before, deeds = asks_of(house), house.deeds()
                getattr(house, word)(*args)
                self.assertEqual(house.deeds(), deeds + 1)
                self.assertTrue(asks_of(house) != before or (word == "make" and made), word)
                self.assertIs(house.undo(), True)
                self.assertEqual((asks_of(house), house.deeds()), (before, deeds))
                house.make()

    def test_of_make_makers_too(self):
        house = full_house()
        first = house.make()
        house.undo()
        self.assertIsNone(house.rows("kids"))
        self.assertEqual(house.make(), first)
        rows = house.rows("kids")
        house.set_keys("one", (("k", "pulp"),))
        again = house.make()
        house.undo()
        self.assertEqual(house.rows("kids"), rows)
        self.assertEqual(house.make(), again)
        house.undo()
        house.undo()
        self.assertEqual(house.make(), [("folk", []), ("kids", [])])

    def test_of_end_gives_the_maker_back(self):
        house = full_house()
        house.make()
        rows = house.rows("kids")
        house.end("kids")
        house.undo()
        self.assertEqual((house.rows("kids"), house.make()), (rows, [("folk", []), ("kids", [])]))

    def test_behind_refused_ones(self):
        house = house_of(A, C)
        for _ in range(3):
            with self.assertRaises(NoPart):
                house.drop("gone")
        self.assertIs(house.undo(), True)
        self.assertEqual(house.parts(), [A])
        with self.assertRaises(Unsound):
            house.part(("z", "", element(("put", "c", ""))))
        self.assertIs(house.undo(), True)
        self.assertEqual((house.parts(), house.undo()), ([], False))

    def test_all_of_them(self):
        house = full_house()
        house.make()
        told = []
        while house.undo():
            told.append(house.deeds())
        self.assertEqual(told, list(range(11))[::-1])
        self.assertTrue(house == House(FACETS, FORMS))

    def test_another_deed_behind_it(self):
        house = house_of(A, B)
        house.undo()
        house.part(C)
        self.assertEqual((house.parts(), house.deeds()), ([A, C], 2))
        house.undo()
        house.undo()
        self.assertEqual(house.parts(), [])


class Asks(Houses):
    def test_book_entries_lost(self):
        house = full_house()
        for name, setting in (("kids", CHILD_SETTING), ("folk", GROWN_SETTING)):
            book = book_of(FACETS, [A, B, C], house.plan(), setting)
            self.assertEqual(house.book(name), book)
            self.assertEqual(house.entries(name), index_of(book))
            self.assertEqual(house.lost(name), lost_refs(book))
        self.assertEqual(house.lost("kids"), [])
        gone = ("ref", "b", "x", "number")
        self.assertEqual(house.lost("folk"), [("one", (0, 1), gone), ("last", (0, 1), gone)])
        self.assertEqual(house.entries("folk"), [("ink", "", ["1", "2"])])

    def test_as_of_now(self):
        """Book, entries and lost tell of what stands now, rows of what stood when they were made."""
        house = full_house()
        house.make()
        house.part(("a", "New", element(para(("entry", "new", "")), fig(name="f"))))
        self.assertEqual(house.entries("folk"), [("new", "", ["1", "2"])])
        self.assertEqual(house.lost("folk"), [])
        self.assertEqual(house.rows("folk")[0], "1 On ink")

    def test_no_edition(self):
        house = full_house()
        for ask in (house.book, house.entries, house.lost, house.rows):
            check_refused(self, NoEdition, "gone", ask, [("edition", "gone")])
            check_refused(self, NoEdition, "loose", ask, [("edition", "loose")])
        house.end("kids")
        check_refused(self, NoEdition, "kids", house.rows, [("edition", "kids")])
        self.assertEqual(house.book(edition="folk"), house.book("folk"))
        self.assertEqual(house.rows(edition="folk"), house.rows("folk"))

    def test_asks_are_not_logged(self):
        house = full_house()
        log = house.log()
        asks_of(house)
        house.twin()
        house.as_of(0)
        house.deeds()
        self.assertEqual(house.log(), log)

    def test_lawful_in_all(self):
        house = house_of(A, B, C, FOUL, TIED, ODD)
        parts = house.parts()
        wanted = [(form, part[0]) for form, rules, _ in FORMS for part in parts
                  if judged(FACETS, rules, put_in(parts, part[0]))[0] == "unlawful"]
        self.assertEqual(house.lawful_in_all(), wanted)
        self.assertEqual(wanted, [
            ("loose", "odd"), ("loose", "tied"), ("narrow", "foul"), ("narrow", "odd"), ("narrow", "tied"),
            ("wordy", "a"), ("wordy", "b"), ("wordy", "c"), ("wordy", "foul"), ("wordy", "odd"), ("wordy", "tied")])
        self.assertEqual(house_of(A, C, forms=(LOOSE,)).lawful_in_all(), [])
        self.assertEqual(House(FACETS, FORMS).lawful_in_all(), [])

    def test_deeds(self):
        house = House(FACETS, FORMS)
        many = []
        for work in (lambda: house.part(A), lambda: house.part(C), house.make, house.undo, house.undo, house.undo, house.undo,
                     lambda: house.set_keys("book", ())):
            work()
            many.append(house.deeds())
        self.assertEqual(many, [1, 2, 3, 2, 1, 0, 0, 1])

    def test_log(self):
        house = House(FACETS, FORMS)
        house.part(A)
        house.node("one", "book", part="a")
        house.set_keys("one", ())
        house.edition("e", "loose", CHILD_SETTING)
        house.make()
        house.end("e")
        house.undo()
        with self.assertRaises(InUse):
            house.unnode("book")
        house.unnode("one")
        house.drop("a")
        words = ["part", "node", "set_keys", "edition", "make", "end", "undo", "unnode", "unnode", "drop"]
        self.assertEqual(house.log(), [(end, word) for word in words for end in ("in", "out")])
        self.assertEqual({type(one) for one in house.log()}, {tuple})

    def test_alike(self):
        self.assertTrue(House(FACETS, FORMS) == House(FACETS, FORMS))
        self.assertFalse(House(FACETS, FORMS) != House(FACETS, FORMS))
        self.assertFalse(House(FACETS, FORMS) == House(FACETS, FORMS, top="top"))
        self.assertFalse(House(FACETS, FORMS) == House(FACETS, FORMS[:2]))
        self.assertFalse(House(FACETS, FORMS) == House(FACETS_ONE, FORMS))
        self.assertTrue(house_of(A, C) == house_of(C, A))
        self.assertFalse(house_of(A) == house_of(C))
        one, other = full_house(), full_house()
        self.assertTrue(one == other)
        one.make()
        self.assertIs(one == other, True)
        one.end("kids")
        self.assertIs(one == other, False)
        one.edition("kids", "loose", ("latin", "child"))
        self.assertFalse(one == other)
        one.undo()
        one.undo()
        self.assertTrue(one == other)
        one.set_keys("in", (("k", ""),))
        self.assertFalse(one == other)

    def test_unlike_all_else(self):
        house = House(FACETS, FORMS)
        for other in (None, True, 0, "", (), [], {}, House, object(), [house], Maker(()), FACETS):
            self.assertIs(house == other, False)
            self.assertIs(house != other, True)
            self.assertIs(other == house, False)

    def test_told_lists_changed(self):
        house = full_house()
        house.make()
        before = copy.deepcopy(asks_of(house)), house.log(), house.make()
        told = lists_in((asks_of(house), asks_of(house), house.make(), house.log(), house.log()))
        self.assertEqual(len({id(one) for one in told}), len(told))
        for _ in range(2):
            house.undo()
        for one in told:
            one.clear()
            one.append("more")
        self.assertEqual(asks_of(house), before[0])
        self.assertEqual(house.log()[:len(before[1])], before[1])
        self.assertEqual(house.make(), before[2])

    def test_what_is_handed_in_stays(self):
        things = [FACETS, FORMS, A, B, (("k", "K"),), CHILD_SETTING]
        before = repr(things)
        house = House(things[0], things[1])
        house.part(things[2])
        house.part(things[3])
        house.set_keys("book", things[4])
        house.edition("e", "loose", things[5])
        house.make()
        house.undo()
        self.assertEqual(repr(things), before)


class AsOf(Houses):
    def test_each_number(self):
        house = full_house()
        first = house.make()
        house.set_keys("one", (("k", "pulp"),))
        again = house.make()
        self.assertEqual(house.deeds(), 13)
        for many in range(14):
            other = house.as_of(many)
            self.assertIs(type(other), House)
            self.assertEqual((other.deeds(), other.log(), other.is_open()), (many, [], True))
            wanted = house.as_of(many=13)
            for _ in range(13 - many):
                wanted.undo()
            self.assertEqual(asks_of(other), asks_of(wanted))
            self.assertTrue(other == wanted)
            if many >= 10:
                nothing = [("folk", []), ("kids", [])]
                self.assertEqual(other.make(), {10: first, 11: nothing, 12: again, 13: nothing}[many])
        self.assertEqual(house.deeds(), 13)

    def test_undone_there(self):
        house = full_house()
        other = house.as_of(2)
        self.assertEqual(other.parts(), [A, B])
        self.assertIs(other.undo(), True)
        self.assertEqual(other.log(), [("in", "undo"), ("out", "undo")])
        self.assertEqual((other.parts(), other.undo(), other.undo()), ([A], True, False))
        self.assertEqual(house.deeds(), 10)

    def test_of_its_own(self):
        house = full_house()
        house.make()
        before = asks_of(house), house.log()
        other = house.as_of(house.deeds())
        other.end("kids")
        other.part(("free", "", element()))
        other.set_keys("one", (("k", "pulp"),))
        other.make()
        while other.undo():
            pass
        self.assertEqual((asks_of(house), house.log()), before)
        other = house.twin()
        told = asks_of(other)
        house.set_keys("one", (("k", "pulp"),))
        house.make()
        house.undo()
        house.end("folk")
        self.assertEqual(asks_of(other), told)
        self.assertEqual(other.make(), [("folk", []), ("kids", [])])

    def test_no_deed(self):
        house = full_house()
        for many in (-1, 11, 12, 60, -10, 10 ** 9):
            check_refused(self, NoDeed, many, house.as_of, [("many", many)])
        bare = House(FACETS, FORMS)
        self.assertTrue(bare.as_of(0) == bare)
        check_refused(self, NoDeed, 1, bare.as_of, [("many", 1)])
        house.undo()
        self.assertEqual(house.as_of(9).deeds(), 9)
        check_refused(self, NoDeed, 10, house.as_of, [("many", 10)])

    def test_undone_deeds_are_not_counted(self):
        house = house_of(A, B)
        house.undo()
        house.part(C)
        self.assertEqual([part[0] for part in house.as_of(2).parts()], ["a", "c"])

    def test_twin(self):
        house = full_house()
        house.make()
        other = house.twin()
        self.assertEqual((other.deeds(), other.log()), (11, []))
        self.assertTrue(other == house)
        self.assertEqual(asks_of(other), asks_of(house))
        other.undo()
        self.assertIsNone(other.rows("kids"))
        self.assertIsNotNone(house.rows("kids"))

    def test_another_top(self):
        house = House(FACETS, FORMS, top="top")
        house.node("one", "top")
        self.assertEqual([house.as_of(many).plan() for many in (0, 1)], [node("top"), node("top", node("one"))])
        self.assertEqual(house.twin().plan(), house.plan())


class Whole(Houses):
    """Promise [1]: after any deeds, undone and refused ones among them."""

    def test_by_chance(self):
        chance = random.Random(421)
        told = {}
        for _ in range(80):
            house, account = House(FACETS, FORMS), Account(FACETS, FORMS)
            begun = [("part", (part,), {}) for part in (A, B, C)] + [("node", ("one", "book"), {"part": "a"})]
            for turn in range(60):
                deed = begun.pop(0) if begun and turn % 2 else some_deed(chance)
                self.one_deed(deed, house, account, told)
                self.assertEqual((house.deeds(), house.is_open()), (len(account.states) - 1, True))
                if turn % 7 == 0:
                    self.assertEqual(asks_of(house), account.asks())
            self.assertEqual(asks_of(house), account.asks())
            self.assertEqual(house.log(), account.log)
            self.check_made_anew(house)
            self.check_as_of(chance, house, account)
        for word in DEEDS + ("make", "undo"):
            self.assertTrue(told[word, None] > 10, (word, told))
        for pair in (("drop", NoPart), ("node", NoNode), ("node", There), ("unnode", NoNode), ("unnode", InUse),
                     ("set_keys", NoNode), ("edition", There), ("edition", NoForm), ("end", NoEdition), ("part", Unsound),
                     ("part", Unlawful), ("node", Unsound), ("node", Unlawful), ("set_keys", Unsound), ("drop", Unsound),
                     ("edition", Unlawful)):
            self.assertTrue(told.get(pair, 0) > 3, (pair, told))

    def one_deed(self, deed, house, account, told):
        word, args, more = deed
        refused, wanted = account.do(word, args, more)
        told[word, refused and refused[0]] = told.get((word, refused and refused[0]), 0) + 1
        if refused is None:
            self.assertEqual(getattr(house, word)(*args, **more), wanted)
            return
        with self.assertRaises(refused[0]) as caught:
            getattr(house, word)(*args, **more)
        self.assertIs(type(caught.exception), refused[0])
        self.assertEqual(caught.exception.what, refused[1])

    def check_made_anew(self, house):
        other = made_anew(house, FACETS, FORMS)
        self.assertTrue(other == house)
        mine, others = asks_of(house), asks_of(other)
        self.assertEqual(mine[:4] + mine[5:], others[:4] + others[5:])
        house.make()
        other.make()
        for name, form, _ in house.editions():
            self.assertEqual(house.rows(name), other.rows(name))
            counts = [counts for called, _, counts in FORMS if called == form][0]
            self.assertEqual(house.rows(name), Maker(counts).make(house.book(name), house.plan())[0])
        house.undo()

    def check_as_of(self, chance, house, account):
        many = chance.randint(0, house.deeds())
        other, short = house.as_of(many), Account(FACETS, FORMS)
        short.states = account.states[:many + 1]
        self.assertEqual(asks_of(other), short.asks())
        for _ in range(10):
            self.one_deed(some_deed(chance), other, short, {})
        self.assertEqual((asks_of(other), other.log()), (short.asks(), short.log))
        self.assertEqual(asks_of(house), account.asks())

if __name__ == "__main__":
    unittest.main()
