"""Forms and parts of the tests of houses and desks, deeds by chance, and a plain account of what deeds come to."""

from sheafbooks.books import book_of
from sheafbooks.errors import InUse, NoEdition, NoForm, NoNode, NoPart, There, Unlawful, Unsound
from sheafbooks.house import House
from sheafbooks.indexes import index_of
from sheafbooks.judging import judged
from sheafbooks.lawful import faults_in
from sheafbooks.maker import Maker
from sheafbooks.plans import nodes_of
from sheafbooks.puts import put_in
from sheafbooks.reads import reads_of
from sheafbooks.refs import lost_refs
from sheafbooks.soundness import unsound
from tests.common import FACETS_TWO
from tests.samples import ALWAYS, WORDS, element, flat_nodes, node

FACETS = FACETS_TWO
CHILD = ("is", "who", ("child",))
GROWN = ("is", "who", ("grown",))
LATIN = ("is", "tongue", ("latin",))
ANY = ("many", ("either", ("kind", "fig"), ("either", ("kind", "para"), ("kind", "sec"))))
LOOSE = ("loose", (("fig", "words"), ("para", "words"), ("sec", ANY)), (("fig", "chapter"), ("para", "own")))
NARROW = ("narrow", (("fig", "words"), ("para", "words"), ("sec", ("row", ("kind", "para"), ("many", ("kind", "fig"))))),
          (("fig", "book"),))
WORDY = ("wordy", (("para", "words"), ("sec", "words")), ())
FORMS = (LOOSE, NARROW, WORDY)


def para(*things, **more):
    return element(*things, kind="para", **more)


def fig(*things, **more):
    return element(*things, kind="fig", **more)


def title_of(part):
    return ("ref", part, "", "title")


A = ("a", "On <k>", element(para(("text", "By <k>"), ("ref", "b", "x", "number")), fig(("entry", "ink", ""), name="f")))
B = ("b", "Of <l>", element(para(title_of("a"), name="x"), ("put", "a", "f"), fig(when=CHILD, name="y")))
C = ("c", "Alone", element(para(("text", "words"), ("entry", "ink", "red")), when=LATIN))
FOUL = ("foul", "Foul", element(fig(), when=CHILD))
TIED = ("tied", "Tied", element(para(tie="t"), fig(when=GROWN, tie="t")))
ODD = ("odd", "Odd", element(element(("text", "words")), kind="note"))
POOL = (
    A, B, C, FOUL, TIED, ODD,
    ("a", "On <l>", A[2]),
    ("a", "On <k>", element(para(("text", "By <l>"), ("ref", "b", "x", "number")), fig(("entry", "Ink", ""), name="f"))),
    ("a", "On <k>", element(para(("text", "By <k>")), fig(name="g"))),
    ("b", "Of <l>", element(para(title_of("a"), ("ref", "gone", "", "number"), name="x"))),
    ("b", "", element(para(name="x"), fig(), fig(when=LATIN))),
    ("c", "Together", element(para(), ("put", "b", "y"), fig(name="z"))),
    ("c", "Ring", element(para(), ("put", "c", "z"), element(("put", "c", "z"), name="z"))),
    ("d", "Of c", element(para(), ("put", "c", "z"))),
    ("foul", "Fair", element(para(), when=GROWN)),
    ("a", "Foul", element(fig(name="f"), kind="note")),
    ("a", "Foul", element(fig(name="f"), para(when=LATIN))),
    ("b", "Foul", element(fig(name="x"), para(fig()))),
)
KEYS = ((), (("k", "K"),), (("k", "<l>"), ("l", "L")), (("l", "<k>"), ("k", "<l>")), (("k", "x" * 40), ("l", "<k>" * 11)),
        (("l", "l<k>"),))
NODE_NAMES = ("one", "two", "three", "four", "five", "book")
SETTINGS = (("dutch", "child"), ("latin", "child"), ("latin", "grown"), ("english", "grown"))


def some_deed(chance):
    """(word, arguments by places, arguments by names), refused or not."""
    word = chance.choice(("part", "part", "part", "drop", "node", "node", "node", "unnode", "set_keys", "set_keys", "edition",
                          "edition", "end", "make", "make", "undo"))
    if word == "part":
        return word, (chance.choice(POOL),), {}
    if word == "drop":
        return word, (chance.choice(("a", "b", "c", "d", "foul", "gone")),), {}
    if word == "node":
        more = {"part": chance.choice(("", "a", "b", "c", "d", "foul", "tied"))} if chance.random() < 0.9 else {}
        more.update({"when": chance.choice((ALWAYS, CHILD, LATIN))} if chance.random() < 0.3 else {})
        more.update({"place": chance.choice((0, 0, None))} if chance.random() < 0.4 else {})
        return word, (chance.choice(NODE_NAMES), chance.choice(NODE_NAMES + ("book",) * 6)), more
    if word == "unnode":
        return word, (chance.choice(NODE_NAMES),), {}
    if word == "set_keys":
        return word, (chance.choice(NODE_NAMES + ("book",) * 4), chance.choice(KEYS)), {}
    if word == "edition":
        return word, (chance.choice("pqrs"), chance.choice(("loose", "narrow", "wordy", "gone")), chance.choice(SETTINGS)), {}
    return word, (chance.choice("pqrs"),) if word == "end" else (), {}


class Account:
    """What deeds come to, by copies of all that stands, worked out as the document says it."""

    def __init__(self, facets, forms, top="book"):
        self.facets = facets
        self.forms = forms
        self.states = [{"parts": {}, "plan": node(top), "editions": {}, "kept": {}, "rows": {}}]
        self.log = []

    def now(self):
        return self.states[-1]

    def do(self, word, args, more):
        """What the deed tells, or the pair (class, what) with which it's refused."""
        self.log += [("in", word), ("out", word)]
        if word == "undo":
            return None, (len(self.states) > 1 and self.states.pop() is not None)
        then = {name: dict(some) if isinstance(some, dict) else some for name, some in self.now().items()}
        refused = getattr(self, word)(then, *args, **more)
        told = None
        if word == "make":
            refused, told = None, refused
        else:
            refused = refused or self.unfit(then)
        if refused:
            return refused, None
        self.states.append(then)
        return None, told

    def book(self, then, name):
        parts = [then["parts"][part] for part in sorted(then["parts"])]
        return book_of(self.facets, parts, then["plan"], then["editions"][name][1])

    def unfit(self, then):
        parts = [then["parts"][part] for part in sorted(then["parts"])]
        what = unsound(parts, then["plan"])
        if what is not None:
            return Unsound, what
        for name in sorted(then["editions"]):
            form, setting = then["editions"][name]
            rules = [rules for called, rules, _ in self.forms if called == form][0]
            for chapter in self.book(then, name):
                if faults_in(self.facets, rules, put_in(parts, chapter[2]), setting):
                    return Unlawful, (name, chapter[0])
        return None

    def part(self, then, part):
        then["parts"][part[0]] = part

    def drop(self, then, name):
        return None if then["parts"].pop(name, None) else (NoPart, name)

    def names(self, then):
        return [name for name, _ in nodes_of(then["plan"])]

    def change(self, then, name, work):
        def inner(one):
            one = one[:4] + (tuple(inner(other) for other in one[4]),)
            return work(one) if one[0] == name else one
        then["plan"] = inner(then["plan"])

    def node(self, then, name, above, part="", when=ALWAYS, place=None):
        if above not in self.names(then):
            return NoNode, above
        if name in self.names(then):
            return There, name

        def work(one):
            nodes = list(one[4])
            nodes.insert(len(nodes) if place is None else place, (name, part, when, (), ()))
            return one[:4] + (tuple(nodes),)
        return self.change(then, above, work)

    def unnode(self, then, name):
        if name not in self.names(then):
            return NoNode, name
        if name == self.names(then)[0] or name in [above for _, above in nodes_of(then["plan"])]:
            return InUse, name
        above = dict(nodes_of(then["plan"]))[name]
        return self.change(then, above, lambda one: one[:4] + (tuple(other for other in one[4] if other[0] != name),))

    def set_keys(self, then, node, keys):
        if node not in self.names(then):
            return NoNode, node
        return self.change(then, node, lambda one: one[:3] + (tuple(keys), one[4]))

    def edition(self, then, name, form, setting):
        if name in then["editions"]:
            return There, name
        if form not in [called for called, _, _ in self.forms]:
            return NoForm, form
        then["editions"][name] = (form, setting)
        then["kept"][name] = {}
        return None

    def end(self, then, name):
        if name not in then["editions"]:
            return NoEdition, name
        for some in ("editions", "kept", "rows"):
            then[some].pop(name, None)
        return None

    def make(self, then):
        told = []
        for name in sorted(then["editions"]):
            counts = self.counts(then, name)
            book = self.book(then, name)
            reads = {chapter[0]: reads_of(book, then["plan"], counts, chapter[0]) for chapter in book}
            told.append((name, [one for one in reads if then["kept"][name].get(one) != reads[one]]))
            then["kept"][name] = reads
            then["rows"][name] = Maker(counts).make(book, then["plan"])[0]
        return told

    def counts(self, then, name):
        return [counts for called, _, counts in self.forms if called == then["editions"][name][0]][0]

    def asks(self):
        """All that a house tells of what stands."""
        then = self.now()
        parts = [then["parts"][part] for part in sorted(then["parts"])]
        editions = [(name,) + then["editions"][name] for name in sorted(then["editions"])]
        books = [(name, self.book(then, name)) for name, _, _ in editions]
        bad = [(form, part[0]) for form, rules, _ in self.forms for part in parts
               if judged(self.facets, rules, put_in(parts, part[0]))[0] == "unlawful"]
        return (parts, then["plan"], editions, [(name, book, index_of(book), lost_refs(book)) for name, book in books],
                [then["rows"].get(name) for name, _, _ in editions], bad)


def asks_of(house):
    """All that a house tells of what stands, as Account tells it."""
    names = [name for name, _, _ in house.editions()]
    return (house.parts(), house.plan(), house.editions(),
            [(name, house.book(name), house.entries(name), house.lost(name)) for name in names],
            [house.rows(name) for name in names], house.lawful_in_all())


def without_puts(element_):
    """An element without the puts in it."""
    inner = [thing if thing[0] in WORDS else without_puts(thing) for thing in element_[4] if thing[0] != "put"]
    return element_[:4] + (tuple(inner),)


def made_anew(house, facets, forms):
    """A house made of what stands in another, by deeds that are none of its own."""
    other = House(facets, forms, top=house.plan()[0])
    for name, title, root in house.parts():
        other.part((name, title, without_puts(root)))
    for part in house.parts():
        other.part(part)
    flat = flat_nodes(house.plan())
    for one, above in flat[1:]:
        other.node(one[0], above, part=one[1], when=one[2])
    for one, _ in flat:
        other.set_keys(one[0], one[3])
    for name, form, setting in house.editions():
        other.edition(name, form, setting)
    return other
