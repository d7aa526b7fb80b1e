"""Parts and plans as they are written, and WHENs, MODELs and MADE elements by chance (with a seed, so always the same),
with what the document says of them."""

import itertools

ALWAYS = ("always",)
NEVER = ("not", ALWAYS)
TEXT = ("text", "some words")
REF = ("ref", "other", "fig", "number")
ENTRY = ("entry", "main", "sub")
PUT = ("put", "other", "fig")
PLAIN = (TEXT, REF, ENTRY)
WORDS = ("text", "ref", "entry", "put")


def element(*things, kind="sec", name="", when=ALWAYS, tie=""):
    return (kind, name, when, tie, tuple(things))


def part(*things, name="intro", title="On books", **more):
    return (name, title, element(*things, **more))


def made(*things, kind="sec", home=(), when=ALWAYS, tie=""):
    """A MADE element."""
    return (kind, home, when, tie, tuple(things))


def node(name, *nodes, part="", when=ALWAYS, keys=()):
    return (name, part, when, tuple(keys), tuple(nodes))


def flat(thing, path=()):
    """Pairs (path, thing) of a thing and of all in it, in order."""
    told = [(path, thing)]
    if thing[0] not in WORDS:
        for at, inner in enumerate(thing[4]):
            told += flat(inner, path + (at,))
    return told


def flat_nodes(plan, above=""):
    """Pairs (NODE, name of the one above) of a PLAN's nodes, in order."""
    told = [(plan, above)]
    for inner in plan[4]:
        told += flat_nodes(inner, plan[0])
    return told


def some_when(chance, facets, deep):
    """A WHEN at most so deep, of however many parts."""
    word = chance.choice(("always", "is", "is", "not", "both", "either", "both", "either")) if deep > 1 else "is"
    if word == "always":
        return ALWAYS
    if word == "is":
        facet, words = chance.choice(facets)
        return ("is", facet, tuple(sorted(chance.sample(words, chance.randint(1, len(words))))))
    many = 1 if word == "not" else 2
    return (word,) + tuple(some_when(chance, facets, deep - 1) for _ in range(many))


def some_model(chance, kinds, deep):
    """A MODEL at most so deep, of however many parts."""
    word = chance.choice(("none", "kind", "kind", "many", "row", "either", "row", "either")) if deep > 1 else "kind"
    if word == "none":
        return ("none",)
    if word == "kind":
        return ("kind", chance.choice(kinds))
    many = 1 if word == "many" else 2
    return (word,) + tuple(some_model(chance, kinds, deep - 1) for _ in range(many))


def parts_of(tree):
    """How many parts a WHEN or MODEL has."""
    if tree[0] in ("always", "is", "none", "kind"):
        return 1
    return 1 + sum(parts_of(inner) for inner in tree[1:])


def settings_where(facets, when):
    """The settings in which a WHEN holds, worked out as sets of settings."""
    every = set(itertools.product(*[words for _, words in facets]))
    word, *rest = when
    if word == "always":
        return every
    if word == "is":
        at = [name for name, _ in facets].index(rest[0])
        return {setting for setting in every if setting[at] in rest[1]}
    inner = [settings_where(facets, other) for other in rest]
    if word == "not":
        return every - inner[0]
    return inner[0] & inner[1] if word == "both" else inner[0] | inner[1]


def rows_of(model, most):
    """The set of all rows that fit a MODEL and have at most so many kinds, worked out as sets of rows."""
    word, *rest = model
    if word == "none":
        return {()}
    if word == "kind":
        return {(rest[0],)} if most > 0 else set()
    inner = [rows_of(other, most) for other in rest]
    if word == "either":
        return inner[0] | inner[1]
    if word == "row":
        return {one + other for one in inner[0] for other in inner[1] if len(one + other) <= most}
    told = {()}
    fresh = {()}
    while fresh:
        fresh = {one + other for one in fresh for other in inner[0] if len(one + other) <= most} - told
        told |= fresh
    return told


def some_made(chance, facets, kinds, deep):
    """A MADE element at most so deep, with things of all kinds but puts."""
    when = ALWAYS if chance.random() < 0.5 else some_when(chance, facets, 3)
    inner = []
    if deep > 1 and chance.random() < 0.8:
        inner = [some_made(chance, facets, kinds, deep - 1) for _ in range(chance.randint(0, 3))]
    elif chance.random() < 0.5:
        inner = [chance.choice(PLAIN) for _ in range(chance.randint(0, 2))]
    tie = chance.choice(("", "", "a", "b"))
    return (chance.choice(kinds), chance.choice(((), ("part", "name"))), when, tie, tuple(inner))


def some_rules(chance, kinds):
    """RULES of most of these kinds, often "words" or a MODEL that many rows fit."""
    told = []
    for kind in sorted(kinds):
        shown = chance.choice(("words", "any", "any", "any", "model", "model", "out"))
        any_row = ("many", ("either", ("kind", kinds[0]), ("either", ("kind", kinds[1]), ("kind", kinds[2]))))
        rule = {"words": "words", "any": any_row, "model": some_model(chance, kinds, 4)}.get(shown)
        told += [] if rule is None else [(kind, rule)]
    return tuple(told)


def left_paths(facets, whole, setting):
    """The paths of the elements of a MADE one that are left."""
    at = dict(flat(whole))
    every = [path for path, thing in at.items() if thing[0] not in WORDS]
    return {path for path in every
            if all(setting in settings_where(facets, at[path[:deep]][2]) for deep in range(len(path) + 1))}


def faults_as_written(facets, rules, whole, setting):
    """The faults of a MADE element, worked out word by word from the sets of what is left."""
    at = dict(flat(whole))
    left = left_paths(facets, whole, setting)
    told = []
    for path in sorted(left):
        kind, _, _, _, things = at[path]
        inner = [path + (place,) for place, thing in enumerate(things) if thing[0] not in WORDS]
        rule = dict(rules).get(kind)
        stay = [one for one in inner if one in left]
        wrong = {"kind": rule is None, "words": False, "row": False}
        if rule == "words":
            wrong["words"] = inner != []
        elif rule is not None:
            wrong["words"] = len(inner) != len(things)
            wrong["row"] = tuple(at[one][0] for one in stay) not in rows_of(rule, len(stay))
        ties = {at[one][3] for one in inner} - {""}
        by_tie = {tie: {one in left for one in inner if at[one][3] == tie} for tie in ties}
        wrong["tie"] = any(len(both) == 2 for both in by_tie.values())
        told += [(path, word) for word in ("kind", "words", "row", "tie") if wrong[word]]
    return told


def some_plan(chance, facets, parts=("",), texts=("",), most=16):
    """A PLAN within the bounds, its keys of few NAMEs and these texts."""
    names = chance.sample("abcdefghijklmnopqrstuvwxyz", chance.randint(1, most))

    def some(deep):
        name = names.pop()
        inner = []
        while deep < 4 and names and chance.random() < 0.75:
            inner.append(some(deep + 1))
        when = some_when(chance, facets, 3) if chance.random() < 0.4 else ALWAYS
        keys = [(key, chance.choice(texts)) for key in chance.sample("klmnop", chance.randint(0, 4))]
        return node(name, *inner, part=chance.choice(parts), when=when, keys=keys)
    return some(1)


def growing(chance, plan):
    """The PLAN with other TEXTs of its keys k to p, each with marks of NAMEs behind its own alone: so without a ring."""
    keys = []
    for name, _ in plan[3]:
        behind = "klmnopz"["klmnop".index(name) + 1:]
        marks = [f"<{chance.choice(behind)}>" for _ in range(chance.randint(0, 8))]
        keys.append((name, "".join(marks) + "x" * chance.randint(0, 16)))
    return plan[:3] + (tuple(keys), tuple(growing(chance, inner) for inner in plan[4]))


KINDS = ("fig", "note", "para", "sec")
PART_NAMES = ("a", "b", "c")
ELEMENT_NAMES = ("x", "y", "z")
MAINS = ("Ink", "ink", "inks", "paper", "Paper", "Zeal", "<k>")
SUBS = ("", "", "red", "Red", "black")
BOOK_TEXTS = ("", "plain", "<k> and <l>", "<lost>", "plain", "<")


def some_left(chance, deep):
    """A MADE element at most so deep, with homes, texts, refs and entries of few names."""
    home = (chance.choice(PART_NAMES), chance.choice(ELEMENT_NAMES)) if chance.random() < 0.5 else ()
    inner = []
    if deep > 1 and chance.random() < 0.7:
        inner = [some_left(chance, deep - 1) for _ in range(chance.choice((0, 1, 2, 3, 3, 11)))]
    elif chance.random() < 0.8:
        inner = [some_words(chance) for _ in range(chance.randint(1, 4))]
    return made(*inner, kind=chance.choice(KINDS), home=home)


def some_words(chance):
    """A text, a ref or an entry."""
    return chance.choice((
        ("text", chance.choice(BOOK_TEXTS)),
        ("ref", chance.choice(PART_NAMES + ("gone",)), chance.choice(ELEMENT_NAMES + ("", "lost")),
         chance.choice(("number", "title"))),
        ("entry", chance.choice(MAINS), chance.choice(SUBS))))


def some_book(chance):
    """A list of CHAPTERs of unlike nodes and numbers, in any order, and a PLAN with those nodes."""
    pool = [(first,) for first in (1, 2, 3, 10, 12)] + [(1, 1), (1, 2), (1, 10), (2, 1), (10, 1), (10, 1, 3), (1, 1, 1)]
    many = chance.randint(0, 6)
    nodes = chance.sample(("one", "two", "three", "four", "five", "six", "seven"), many)
    book = []
    for name, number in zip(nodes, chance.sample(pool, many)):
        body = None if chance.random() < 0.15 else some_left(chance, 3)
        book.append((name, number, chance.choice(PART_NAMES), chance.choice(("On ink", "", "Title")), body))
    keys = (("k", "K"), ("l", "<k><k>"))
    plan = node("top", *[node(name, keys=[("k", name)] * (at % 2)) for at, name in enumerate(nodes)], keys=keys)
    return book, plan


def some_counts(chance):
    """COUNTS of some of KINDS and of the words of other things."""
    kinds = sorted(chance.sample(KINDS + ("text", "ref", "entry", "put"), chance.randint(0, 6)))
    return tuple((kind, chance.choice(("book", "chapter", "own"))) for kind in kinds)


def things_left(book, *words):
    """Triples (chapter, path, thing) of a book's things of these words, of its elements without words."""
    every = [(chapter, path, thing) for chapter in book if chapter[4] is not None for path, thing in flat(chapter[4])]
    return [one for one in every if (one[2][0] in words if words else one[2][0] not in WORDS)]


def numbers_as_written(book, counts):
    """What numbers_of tells, each number counted anew from the whole list of elements."""
    every = things_left(book)
    told = []
    for at, (chapter, path, thing) in enumerate(every):
        how = dict(counts).get(thing[0])
        ahead = [other for other, _, one in every[:at + 1] if one[0] == thing[0]]
        dotted = ".".join(map(str, chapter[1]))
        if how == "book":
            told.append((chapter[0], path, f"{len(ahead)}"))
        elif how == "chapter":
            same = [other for other in ahead if other[1][0] == chapter[1][0]]
            told.append((chapter[0], path, f"{chapter[1][0]}-{len(same)}"))
        elif how == "own":
            told.append((chapter[0], path, f"{dotted}-{len([o for o in ahead if o[0] == chapter[0]])}"))
    return told


def meant_as_written(book, part, name):
    """What meant_by tells, by looking at all that could be meant."""
    if name == "":
        found = [(chapter[0], ()) for chapter in book if chapter[2] == part]
    else:
        found = [(chapter[0], path) for chapter, path, thing in things_left(book) if thing[1] == (part, name)]
    return found[0] if found else None


def ref_as_written(book, counts, ref):
    """What ref_text tells."""
    _, part, name, how = ref
    meant = meant_as_written(book, part, name)
    if meant is None:
        return None
    chapter = [one for one in book if one[0] == meant[0]][0]
    if how == "title":
        return chapter[3]
    numbers = {(node, path): text for node, path, text in numbers_as_written(book, counts)}
    dotted = ".".join(map(str, chapter[1]))
    return dotted if name == "" else numbers.get(meant, dotted)
