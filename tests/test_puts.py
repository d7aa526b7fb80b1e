"""Promise [8]: what puts mean, rings of them, and what is put in."""

import itertools
import random
import unittest

from sheafbooks.errors import NoPart
from sheafbooks.parts import is_part
from sheafbooks.puts import how_great, lost_puts, put_in, ring_of_puts, shows_ring
from tests.common import FACETS_TWO, as_list_at_each_depth, check_call, check_is, check_refused, odd_things
from tests.samples import ALWAYS, ENTRY, NEVER, PLAIN, REF, TEXT, element, flat, made, part

CHILD = ("is", "who", ("child",))


def put(name, inner=""):
    return ("put", name, inner)


def root(name, *things, called="", **more):
    """A part of that name; called: its root's own name."""
    return (name, "Title of " + name, element(*things, name=called, **more))


def pairs_to(parts):
    """For each pair (part, name) the set of pairs of which puts stand in its element."""
    told = {}
    for name, _, whole in parts:
        inner = [thing for _, thing in flat(whole) if thing[0] not in ("text", "ref", "entry", "put")]
        for called, one in [("", whole)] + [(one[1], one) for one in inner if one[1] != ""]:
            told[name, called] = {thing[1:] for _, thing in flat(one) if thing[0] == "put"}
    return told


def is_such_a_ring(parts, ring):
    """As the document says, of a list of pairs."""
    led = pairs_to(parts)
    if not ring or len(set(ring)) < len(ring) or not set(ring) <= set(led):
        return False
    return all(ring[(at + 1) % len(ring)] in led[pair] for at, pair in enumerate(ring))


def has_ring(parts):
    """Whether some pair leads back to itself."""
    led = pairs_to(parts)
    for start in led:
        seen, fresh = set(), {start}
        while fresh:
            fresh = {then for pair in fresh for then in led.get(pair, ())} - seen
            seen |= fresh
        if start in seen:
            return True
    return False


def some_parts(chance, many, names, most=3, only_ahead=False):
    """PARTS by chance, whose puts may be lost; only_ahead: puts are of parts behind, so that there is no ring."""
    letters = list("abcdefghij"[:many])
    told = []
    for at, name in enumerate(letters):
        free = list(names)
        chance.shuffle(free)
        others = letters[at + 1:] if only_ahead else letters + ["gone"]
        told.append((name, "", some_element(chance, others, names, free, 3, most)))
    chance.shuffle(told)
    return told


def some_element(chance, others, names, free, deep, most):
    called = free.pop() if free and chance.random() < 0.6 else ""
    if deep == 1 or chance.random() < 0.2:
        return element(*[chance.choice(PLAIN) for _ in range(chance.randint(0, 2))], name=called)
    inner = []
    for _ in range(chance.randint(0, most)):
        if others and chance.random() < 0.5:
            inner.append(put(chance.choice(others), chance.choice(list(names) + [""])))
        else:
            inner.append(some_element(chance, others, names, free, deep - 1, most))
    return element(*inner, name=called, kind=chance.choice(("sec", "note")), tie=chance.choice(("", "tie")),
                   when=chance.choice((ALWAYS, CHILD, NEVER)))


def without_lost(parts):
    """These PARTS, what is lost in them left out."""
    there = {(name, called) for name, called in pairs_to(parts)}

    def kept(thing):
        if thing[0] in ("text", "ref", "entry", "put"):
            return thing
        inner = [kept(one) for one in thing[4] if one[0] != "put" or one[1:] in there]
        return thing[:4] + (tuple(inner),)
    return [(name, title, kept(whole)) for name, title, whole in parts]


class LostPuts(unittest.TestCase):
    def check(self, parts, wanted):
        for told in (lost_puts(list(parts)), lost_puts(tuple(parts))):
            self.assertEqual(told, wanted)
            self.assertIs(type(told), list)

    def test_none(self):
        self.check([], [])
        self.check([root("a")], [])
        self.check([root("a", TEXT, REF, ENTRY)], [])
        self.check([root("a", put("b"), put("b", "fig")), root("b", element(element(name="fig")))], [])
        self.check([root("a", put("a", "top"), put("a"), called="top")], [])
        self.check([root("a", element(name="x"), element(put("a", "x")))], [])

    def test_parts_that_are_not_there(self):
        self.check([root("a", put("b"))], [("a", (0,), put("b"))])
        self.check([root("a", put("b", "fig"))], [("a", (0,), put("b", "fig"))])
        self.check([root("a", element(name="b"), put("b"))], [("a", (1,), put("b"))])

    def test_names_in_another_part_alone(self):
        parts = [root("a", put("b", "fig"), element(name="fig")), root("b", element(name="figs")), root("c", name_fig())]
        self.check(parts, [("a", (0,), put("b", "fig"))])
        self.check([root("a", put("a", "fig")), root("c", name_fig())], [("a", (0,), put("a", "fig"))])

    def test_neither_kinds_nor_ties_nor_the_part_are_names(self):
        parts = [root("a", put("b", "b"), put("b", "sec"), put("b", "tie")), root("b", element(tie="tie"))]
        self.check(parts, [("a", (at,), parts[0][2][4][at]) for at in range(3)])

    def test_refs_are_no_puts(self):
        self.check([root("a", ("ref", "gone", "", "title"))], [])

    def test_by_parts_as_handed_in(self):
        parts = [root("b", put("x")), root("c", put("y")), root("a", put("z"))]
        for some in itertools.permutations(parts):
            self.check(some, [(name, (0,), whole[4][0]) for name, _, whole in some])

    def test_by_paths(self):
        some = [element(put("x", letter), element(put("y", letter)), put("z")) for letter in "abcdefgh"]
        whole = root("a", *some[:2], put("q"), *some[2:5], *[element()] * 4, put("r"), some[5])
        told = lost_puts([whole])
        self.assertEqual([path for _, path, _ in told], sorted(path for _, path, _ in told))
        self.assertIn(("a", (10,), put("r")), told)
        self.assertEqual(told[-3:], [("a", (11, 0), put("x", "f")), ("a", (11, 1, 0), put("y", "f")),
                                     ("a", (11, 2), put("z"))])
        self.assertEqual(len(told), 20)
        twelve = root("a", *[put("x", letter) for letter in "lkjihgfedcba"])
        self.check([twelve], [("a", (at,), put("x", letter)) for at, letter in enumerate("lkjihgfedcba")])

    def test_the_same_one_twice(self):
        self.check([root("a", put("x"), element(put("x")))], [("a", (0,), put("x")), ("a", (1, 0), put("x"))])

    def test_beside_rings(self):
        self.check([root("a", put("a"), put("b"))], [("a", (1,), put("b"))])

    def test_by_chance(self):
        chance = random.Random(101)
        for _ in range(150):
            parts = some_parts(chance, 4, "xyz")
            there = set(pairs_to(parts))
            self.check(parts, [(name, path, thing) for name, _, whole in parts for path, thing in flat(whole)
                               if thing[0] == "put" and thing[1:] not in there])
            self.check(without_lost(parts), [])

    def test_by_names(self):
        for parts in ([root("a", put("b"))], (root("a", put("b")),), [root("a")]):
            check_call(self, lost_puts, [("parts", parts)])


def name_fig():
    return element(name="fig")


ONE = [root("a", put("a"))]
TWO = [root("a", put("b")), root("b", put("a"))]
NAMED = [root("a", element(put("b", "y"), name="x")), root("b", element(element(put("a", "x")), name="y"))]
MANY = [root(name, element(element(put(then)))) for name, then in zip("abcdefghij", "bcdefghija")]


class Rings(unittest.TestCase):
    def check(self, parts, wanted=None):
        """That there's a ring, just that one in some turn where it is told, and that it's taken, turned as well."""
        for some in (list(parts), tuple(parts)):
            ring = ring_of_puts(some)
            self.assertIs(type(ring), list)
            self.assertTrue(is_such_a_ring(parts, ring), ring)
            self.assertTrue(all(type(pair) is tuple for pair in ring))
            for turn in range(len(ring)):
                check_is(self, shows_ring(some, ring[turn:] + ring[:turn]), True, ring)
            if wanted is not None:
                self.assertIn(ring, [wanted[turn:] + wanted[:turn] for turn in range(len(wanted))])

    def test_none(self):
        for parts in ([], [root("a")], [root("a", put("b")), root("b")], [root("a", put("b"), put("b")), root("b")],
                      [root("a", element(name="x"), element(put("a", "x"), name="y"), put("a", "y"))],
                      [root("a", put("b", "x")), root("b", element(name="x"), put("a", "y"))],
                      [root("a", put("b", "x"), element(name="y")), root("b", element(name="x"), put("a", "y"))],
                      [root("a", put("a", "gone"))], [root("a", put("gone"), put("gone", "a"))],
                      [root("a", put("b"), put("c")), root("b", put("c")), root("c")]):
            self.assertIsNone(ring_of_puts(parts))
            self.assertIsNone(ring_of_puts(tuple(parts)))
            for ring in ([("a", "")], [("a", "x")], [("a", ""), ("b", "")], [("b", "x"), ("a", "y")]):
                check_is(self, shows_ring(parts, ring), False, ring)

    def test_of_one(self):
        self.check(ONE, [("a", "")])
        self.check([root("a", element(put("a", "x"), name="x"))], [("a", "x")])
        self.check([root("b"), root("a", element(element(element(put("a", "x"))), name="x"))], [("a", "x")])
        self.check([root("a", element(element(element(element(put("a"))))))], [("a", "")])

    def test_of_two_and_many(self):
        self.check(TWO, [("a", ""), ("b", "")])
        self.check(NAMED, [("a", "x"), ("b", "y")])
        self.check(MANY, [(name, "") for name in "abcdefghij"])
        self.check(MANY[::-1], [(name, "") for name in "abcdefghij"])

    def test_of_a_root_by_its_name_and_by_the_bare_one(self):
        self.check([root("a", put("a"), called="x")], [("a", "")])
        self.check([root("a", put("a", "x"), called="x")], [("a", "x")])
        both = [root("a", put("a", "x"), put("a"), called="x")]
        self.check(both)
        for ring, wanted in (([("a", "")], True), ([("a", "x")], True), ([("a", ""), ("a", "x")], True),
                             ([("a", "x"), ("a", "")], True), ([("a", "a")], False)):
            check_is(self, shows_ring(both, ring), wanted, ring)
        bare = [root("a", put("a"), called="x")]
        check_is(self, shows_ring(bare, [("a", "x")]), False, None)
        check_is(self, shows_ring(bare, [("a", ""), ("a", "x")]), False, None)
        over = [root("a", put("b", "y"), called="x"), root("b", element(put("a"), name="y"))]
        self.check(over, [("a", ""), ("b", "y")])
        check_is(self, shows_ring(over, [("a", "x"), ("b", "y")]), False, None)

    def test_of_a_part_within_itself(self):
        """An element that stands around the put, at any depth."""
        self.check([root("a", element(element(put("a", "y"), name="z"), name="y"))], [("a", "y")])
        self.check([root("a", element(put("a", "y"), name="x"), element(put("a", "x"), name="y"))],
                   [("a", "x"), ("a", "y")])

    def test_beside_lost_puts(self):
        self.check([root("a", put("gone"), put("b", "gone"), put("b")), root("b", put("gone"), put("a"))],
                   [("a", ""), ("b", "")])

    def test_behind_what_leads_into_it(self):
        self.check([root("a", put("b")), root("b", put("c")), root("c", put("b"), put("d")), root("d")],
                   [("b", ""), ("c", "")])

    def test_the_greatest(self):
        names = "abcdefghijklmnopqrs"
        chained = [element(put("a", then), name=name) for name, then in zip(names, names[1:])]
        last = element(put("b", "a"), name=names[-1])
        parts = []
        for letter, then in zip("abcdefghij", "bcdefghij" + "k"):
            parts.append((letter, "", element(*[self.of(one, letter) for one in chained], last[:4] + ((put(then, "a"),),))))
        self.assertTrue(all(is_part(FACETS_TWO, one) for one in parts))
        self.assertIsNone(ring_of_puts(parts))
        parts[-1] = parts[-1][:2] + (element(*parts[-1][2][4][:-1], last[:4] + ((put("a", "a"),),)),)
        self.check(parts, [(letter, name) for letter in "abcdefghij" for name in names])

    def of(self, one, letter):
        return one[:4] + ((put(letter, one[4][0][2]),),)

    def test_many_puts_of_each(self):
        full = [root(name, *[put(then) for then in "abcdefghij" if then > name] * 3) for name in "abcdefghij"]
        self.assertIsNone(ring_of_puts(full))
        full[9] = root("j", put("a"))
        self.check(full)

    def test_by_chance(self):
        chance = random.Random(103)
        told = {True: 0, False: 0}
        for _ in range(400):
            parts = some_parts(chance, chance.randint(1, 5), "xyz")
            told[has_ring(parts)] += 1
            if has_ring(parts):
                self.check(parts)
            else:
                self.assertIsNone(ring_of_puts(parts))
        self.assertTrue(min(told.values()) > 100, told)

    def test_by_names(self):
        for parts in (TWO, tuple(TWO), [root("a")]):
            check_call(self, ring_of_puts, [("parts", parts)])


class ShowsRing(unittest.TestCase):
    def check(self, parts, thing, wanted):
        check_is(self, shows_ring(parts, thing), wanted, thing)

    def test_pairs_out_twice_and_exchanged(self):
        for parts in (TWO, NAMED, MANY):
            ring = ring_of_puts(parts)
            self.check(parts, ring, True)
            self.check(parts, ring[:-1], False)
            self.check(parts, ring[1:], False)
            self.check(parts, ring + ring[:1], False)
            self.check(parts, ring + ring, False)
            self.check(parts, ring[:1] + ring, False)
        ring = ring_of_puts(MANY)
        for at in range(10):
            self.check(MANY, ring[:at] + ring[at + 1:], False)
            self.check(MANY, ring[:at] + [ring[at]] + ring[at:], False)
        for one, other in itertools.combinations(range(10), 2):
            changed = list(ring)
            changed[one], changed[other] = changed[other], changed[one]
            self.check(MANY, changed, False)
        self.check(MANY, ring[::-1], False)
        self.check(TWO, [("b", ""), ("a", "")], True)
        self.check(ONE, [("a", "")] * 2, False)

    def test_pairs_of_which_no_put_tells(self):
        for ring in ([("b", "")], [("a", "x")], [("", "")], [("", "a")], [("gone", "")], [("a", "a")],
                     [("a", ""), ("gone", "")], [("gone", ""), ("a", "")]):
            self.check(ONE, ring, False)
        lost = [root("a", put("gone"), put("a", "gone"))]
        for ring in ([("gone", "")], [("a", "gone")], [("a", "")], [("a", ""), ("gone", "")]):
            self.check(lost, ring, False)
        # No put of a stands in b, which has a put of itself alone.
        self.check([root("a", put("b")), root("b", put("b"))], [("a", ""), ("b", "")], False)
        self.check([root("a", put("b")), root("b", put("b"))], [("b", "")], True)

    def test_bare_list_and_tuples(self):
        for parts in (ONE, TWO, NAMED, MANY, [], [root("a")]):
            self.check(parts, [], False)
            self.check(parts, (), False)
        for parts in (ONE, TWO, NAMED, MANY):
            ring = ring_of_puts(parts)
            self.check(parts, tuple(ring), False)
            for at, pair in enumerate(ring):
                for thing in as_list_at_each_depth(pair):
                    self.check(parts, ring[:at] + [thing] + ring[at + 1:], False)
                for thing in (pair + ("",), pair[:1], pair[0], pair[::-1], (pair,), put(*pair), ()):
                    self.check(parts, ring[:at] + [thing] + ring[at + 1:], False)

    def test_things_of_any_kind(self):
        for thing in odd_things():
            for parts in (ONE, TWO, [root("a")], []):
                self.check(parts, thing, False)
                self.check(parts, [thing], False)
                self.check(parts, [("a", ""), thing], False)
                self.check(parts, [thing, ("a", "")], False)
                for pair in ((thing, ""), ("a", thing)):
                    self.check(parts, [pair], parts == ONE and pair == ("a", ""))
                self.check(parts, ("a", thing), False)

    def test_every_short_list(self):
        chance = random.Random(107)
        told = {True: 0, False: 0}
        for _ in range(60):
            parts = some_parts(chance, 3, "x", 4)
            pairs = [(name, called) for name in "abc" for called in ("", "x")]
            for size in range(1, 4):
                for some in itertools.product(pairs, repeat=size):
                    wanted = is_such_a_ring(parts, list(some))
                    told[wanted] += 1
                    self.check(parts, list(some), wanted)
        self.assertTrue(min(told.values()) > 100, told)

    def test_by_names(self):
        for parts, thing in ((TWO, [("a", ""), ("b", "")]), (TWO, [("a", "")]), (tuple(TWO), (("a", ""), ("b", "")))):
            check_call(self, shows_ring, [("parts", parts), ("thing", thing)])


def expanded(parts, name, whole, path=()):
    """Triples (path, thing without its things, home) of what is put in, worked out thing by thing."""
    called = {one[0]: dict([("", one[2])] + [(thing[1], thing) for _, thing in flat(one[2])
                                             if thing[0] not in ("text", "ref", "entry", "put") and thing[1]])
              for one in parts}
    told, waiting = [], [(path, name, whole)]
    while waiting:
        where, home, thing = waiting.pop()
        while thing[0] == "put":
            home, thing = thing[1], called[thing[1]][thing[2]]
        if thing[0] in ("text", "ref", "entry"):
            told.append((where, thing))
            continue
        kind, own, when, tie, things = thing
        told.append((where, (kind, (home, own) if own else (), when, tie, len(things))))
        waiting += [(where + (at,), home, inner) for at, inner in enumerate(things)]
    return sorted(told)


class PutIn(unittest.TestCase):
    def check(self, parts, name, wanted):
        for some in (list(parts), tuple(parts)):
            self.assertEqual(put_in(some, name), wanted)

    def test_without_puts(self):
        self.check([root("a")], "a", made())
        self.check([root("a", *PLAIN, kind="note", when=CHILD, tie="t", called="x")], "a",
                   made(*PLAIN, kind="note", when=CHILD, tie="t", home=("a", "x")))
        self.check([root("b"), root("a", element(TEXT, name="y"), element(element(REF)))], "a",
                   made(made(TEXT, home=("a", "y")), made(made(REF))))

    def test_homes(self):
        parts = [root("a", put("b", "y"), element(put("b"), name="x"), called="top"),
                 root("b", element(TEXT, name="y"), element(put("c", "z"))), root("c", element(name="z"))]
        inner = made(made(TEXT, home=("b", "y")), made(made(home=("c", "z"))))
        self.check(parts, "a", made(made(TEXT, home=("b", "y")), made(inner, home=("a", "x")), home=("a", "top")))
        self.check(parts, "b", inner)
        self.check(parts, "c", made(made(home=("c", "z"))))

    def test_the_root_has_its_own_name_however_it_is_meant(self):
        parts = [root("a", put("b"), put("b", "top")), root("b", TEXT, called="top")]
        self.check(parts, "a", made(*[made(TEXT, home=("b", "top"))] * 2))

    def test_within_the_same_part(self):
        parts = [root("a", element(ENTRY, name="x", tie="t"), element(put("a", "x"), put("a", "x")))]
        x = made(ENTRY, home=("a", "x"), tie="t")
        self.check(parts, "a", made(x, made(x, x)))

    def test_names_that_stand_in_several_parts(self):
        parts = [root("a", element(name="x", kind="one"), put("b", "x"), put("c")),
                 root("b", element(name="x", kind="two")), root("c", put("a", "x"), element(name="x", kind="three"))]
        self.check(parts, "a", made(made(kind="one", home=("a", "x")), made(kind="two", home=("b", "x")),
                                    made(made(kind="one", home=("a", "x")), made(kind="three", home=("c", "x")))))

    def test_whens_and_ties_are_those_of_what_is_meant(self):
        parts = [root("a", put("b", "x"), when=NEVER, tie="one"), root("b", element(name="x", when=CHILD, tie="two"))]
        self.check(parts, "a", made(made(home=("b", "x"), when=CHILD, tie="two"), when=NEVER, tie="one"))

    def test_puts_at_any_depth_in_what_is_put(self):
        deep = [root(name, element(element(put(then), element()))) for name, then in zip("abc", "bcd")]
        deep.append(root("d", element(TEXT, name="last")))
        wanted = made(made(TEXT, home=("d", "last")))
        for name in "cba":
            wanted = made(made(made(wanted, made())))
            self.check(deep, name, wanted)

    def test_eighty_elements_twelve_deep(self):
        eleven = made(*[made(TEXT)] * 10)
        parts = [root("a", *[put("b")] * 7, element(), element()), root("b", *[element(TEXT)] * 10)]
        self.assertEqual(how_great(parts, "a"), (80, 3))
        self.check(parts, "a", made(*[eleven] * 7, made(), made()))
        parts = [root(name, element(put(then))) for name, then in zip("abcde", "bcdef")] + [root("f", element(TEXT))]
        wanted = made(TEXT)
        for _ in range(11):
            wanted = made(wanted)
        self.assertEqual(how_great(parts, "a"), (12, 12))
        self.check(parts, "a", wanted)

    def test_no_part(self):
        for parts in ([], (), [root("a", element(name="b"))], (root("a"),)):
            for name in ("b", "sec", "Title", "aa"):
                check_refused(self, NoPart, name, put_in, [("parts", parts), ("name", name)])

    def test_by_chance(self):
        chance = random.Random(109)
        puts = 0
        for _ in range(250):
            parts = without_lost(some_parts(chance, 4, "xyz", only_ahead=chance.random() < 0.7))
            if has_ring(parts):
                continue
            for name, _, whole in parts:
                puts += len([1 for _, thing in flat(whole) if thing[0] == "put"])
                told = [(path, thing if thing[0] in ("text", "ref", "entry") else thing[:4] + (len(thing[4]),))
                        for path, thing in flat(put_in(parts, name))]
                self.assertEqual(told, expanded(parts, name, whole))
        self.assertTrue(puts > 300)

    def test_by_names(self):
        for parts in ([root("a", put("b")), root("b")], (root("a"),)):
            check_call(self, put_in, [("parts", parts), ("name", "a")])


class HowGreat(unittest.TestCase):
    def check(self, parts, name, wanted):
        for some in (list(parts), tuple(parts)):
            told = how_great(some, name)
            self.assertEqual(told, wanted)
            self.assertEqual([type(told), type(told[0]), type(told[1])], [tuple, int, int])

    def test_without_puts(self):
        self.check([root("a")], "a", (1, 1))
        self.check([root("a", *PLAIN)], "a", (1, 1))
        self.check([root("a", element(), element(*PLAIN))], "a", (3, 2))
        self.check([root("b"), root("a", element(element()), element(element(element())))], "a", (6, 4))

    def test_with_puts(self):
        parts = [root("a", put("b"), element(put("b", "x"), put("c"))), root("b", element(element(put("c")), name="x")),
                 root("c", TEXT)]
        self.check(parts, "c", (1, 1))
        self.check(parts, "b", (4, 4))
        self.check(parts, "a", (1 + 4 + 1 + 3 + 1, 5))

    def test_eighty_and_more(self):
        for many in (77, 78, 79, 80, 81):
            parts = [root("a", *[put("b")] * (many // 3), *[put("c")] * (many % 3)), root("b", element(), element()),
                     root("c")]
            self.check(parts, "a", (1 + many, 3))

    def test_twelve_deep_and_more(self):
        for deep in range(1, 10):
            names = "abcdefghij"[:deep]
            parts = [root(name, element(put(then))) for name, then in zip(names, names[1:])] + [root(names[-1])]
            self.check(parts, "a", (2 * deep - 1, 2 * deep - 1))
            parts[-1] = root(names[-1], element())
            self.check(parts, "a", (2 * deep, 2 * deep))

    def test_the_greatest(self):
        """Far more than could be put in: each of ten parts has as many puts of the next as it may have."""
        parts = [root(name, *[put(then)] * 39) for name, then in zip("abcdefghij", "bcdefghij")]
        parts.append(root("j", *[element()] * 23))
        self.assertTrue(all(is_part(FACETS_TWO, one) for one in parts))
        many, deep = 24, 2
        for name in "ihgfedcba":
            many, deep = 1 + 39 * many, deep + 1
            self.check(parts, name, (many, deep))
        self.check(parts[::-1], "a", (many, deep))

    def test_the_greatest_within_one_part(self):
        names = "abcdefghijklm"
        some = [element(put("a", then), put("a", then), name=name) for name, then in zip(names, names[1:])]
        parts = [root("a", *some, element(name="m"))]
        self.assertTrue(is_part(FACETS_TWO, parts[0]))
        many = [2 ** (size + 1) - 1 for size in range(13)]
        self.check(parts, "a", (1 + sum(many), 14))

    def test_the_deepest(self):
        names = "abcdefghijklmnopqrs"
        parts = []
        for name, then in zip("abcdefghij", "bcdefghij" + "-"):
            some = [element(put(name, one), name=other) for other, one in zip(names, names[1:])]
            parts.append(root(name, *some, element(*[put(then, "a")] if then != "-" else [], name=names[-1])))
        self.assertTrue(all(is_part(FACETS_TWO, one) for one in parts))
        self.assertEqual(how_great(parts, "a")[1], 1 + 19 * 10)
        self.assertEqual(how_great(parts, "j"), (1 + 19 * 20 // 2, 20))

    def test_as_put_in(self):
        chance = random.Random(113)
        for _ in range(150):
            parts = without_lost(some_parts(chance, 4, "xyz", only_ahead=True))
            for name, _, whole in parts:
                inner = [path for path, thing in flat(put_in(parts, name)) if thing[0] not in ("text", "ref", "entry")]
                self.check(parts, name, (len(inner), 1 + max(len(path) for path in inner)))

    def test_no_part(self):
        for parts in ([], (), [root("a", element(name="b"))]):
            for name in ("b", "sec", "aa"):
                check_refused(self, NoPart, name, how_great, [("parts", parts), ("name", name)])

    def test_by_names(self):
        for parts in ([root("a", put("b")), root("b")], (root("a"),)):
            check_call(self, how_great, [("parts", parts), ("name", "a")])


if __name__ == "__main__":
    unittest.main()
