"""PARTs as texts, row by row, and the words of WHENs in them."""

from sheafbooks.errors import BadRow
from sheafbooks.parts import WORDS, is_part, things_under
from sheafbooks.whens import ALWAYS, BRANCHES, WHEN_DEEP, is_when
from sheafbooks.words import is_name, is_text

NO_NAME = "-"


def name_shown(name):
    """A name as it is written, a bare one too."""
    return NO_NAME if name == "" else name


def name_read(word):
    """The name that is written so, None of the bare text, as which no name is written."""
    if word == "":
        return None
    return "" if word == NO_NAME else word


def when_shown(when):
    """The words of a WHEN."""
    word = when[0]
    if word == "is":
        return "is " + when[1] + " " + ",".join(when[2])
    return " ".join([word] + [when_shown(inner) for inner in when[1:]])


def when_read(facets, words):
    """The WHEN whose words these are, None where they are no WHEN's."""
    found = when_ahead(words, WHEN_DEEP)
    if found is None or len(found[1]) > 0 or not is_when(facets, found[0]):
        return None
    return found[0]


def when_ahead(words, deep):
    """The pair of what is written as WHENs are at the beginning of words, at most so deep, and the
    words behind it; None where there's none."""
    if deep < 1 or len(words) == 0:
        return None
    word = words[0]
    rest = words[1:]
    if word == "always":
        return ALWAYS, rest
    if word == "is":
        return (("is", rest[0], tuple(rest[1].split(","))), rest[2:]) if len(rest) > 1 else None
    if word not in dict(BRANCHES):
        return None
    when = (word,)
    while len(when) <= dict(BRANCHES)[word]:
        found = when_ahead(rest, deep - 1)
        if found is None:
            return None
        when = when + (found[0],)
        rest = found[1]
    return when, rest


def part_text(part):
    """The text of a PART without mains that have a stroke."""
    name, title, root = part
    rows = ["." * (len(path) + 1) + " " + thing_shown(thing) for path, thing in things_under((), root)]
    return "\n".join(["part " + name + " " + title] + rows)


def thing_shown(thing):
    """What is behind the dots in a THING's row."""
    word = thing[0]
    if word == "text":
        return "text " + thing[1]
    if word == "entry":
        return "entry " + thing[1] + "/" + thing[2]
    if word == "put":
        return "put " + thing[1] + " " + name_shown(thing[2])
    if word == "ref":
        return "ref " + thing[1] + " " + name_shown(thing[2]) + " " + thing[3]
    kind, name, when, tie, things = thing
    return kind + " " + name_shown(name) + " " + name_shown(tie) + " " + when_shown(when)


def thing_read(facets, row):
    """The THING, an element without its things, that is written so behind the dots, as far as can be
    told without is_part; None where it isn't so written."""
    word, blank, behind = row.partition(" ")
    words = behind.split(" ")
    if word == "text":
        return ("text", behind) if blank == " " else None
    if word == "entry":
        main, stroke, sub = behind.partition("/")
        return ("entry", main, sub) if stroke == "/" else None
    if word == "put":
        return ("put", words[0], name_read(words[1])) if len(words) == 2 else None
    if word == "ref":
        return ("ref", words[0], name_read(words[1]), words[2]) if len(words) == 3 else None
    if len(words) < 3:
        return None
    return (word, name_read(words[0]), when_read(facets, words[2:]), name_read(words[1]), ())


def part_in(facets, text):
    """The PART whose text it is."""
    rows = text.split("\n")
    head = rows[0].split(" ", 2)
    if len(head) != 3 or head[0] != "part" or not is_name(head[1]) or not is_text(head[2]):
        raise BadRow(0)
    root = None
    for at in range(1, len(rows)):
        root = with_row(facets, root, rows[at])
        # What is told by then is a PART itself, if it's the beginning of one.
        if not is_part(facets, (head[1], head[2], root)):
            raise BadRow(at)
    if root is None:
        raise BadRow(len(rows))
    return (head[1], head[2], root)


def with_row(facets, root, row):
    """The root with what a row tells behind all in it, None where it can't stand there."""
    dots, blank, behind = row.partition(" ")
    thing = thing_read(facets, behind)
    if dots != "." * len(dots) or thing is None:
        return None
    if root is None:
        return thing if dots == "." else None
    return with_thing(root, len(dots) - 2, thing)


def with_thing(element, down, thing):
    """The element with a thing behind all, so many elements down in the last ones, None where these aren't."""
    kind, name, when, tie, things = element
    if down == 0:
        return (kind, name, when, tie, things + (thing,))
    if down < 0 or len(things) == 0 or things[-1][0] in WORDS:
        return None
    inner = with_thing(things[-1], down - 1, thing)
    return None if inner is None else (kind, name, when, tie, things[:-1] + (inner,))
