"""Promise [22]: the desk's answers."""

import random
import unittest

from sheafbooks.desk import answers, do_key, do_unkey
from sheafbooks.errors import BadRow
from sheafbooks.house import House
from sheafbooks.plans import node_at
from sheafbooks.reads import index_rows
from sheafbooks.texts import part_text
from tests.common import FACETS_ONE, FACETS_TWO, check_call, check_refused
from tests.houses import A, B, C, FACETS, FORMS, FOUL, ODD, POOL, Account, fig, para, some_deed
from tests.samples import element


def part_rows(part):
    return [f"| {row}" for row in part_text(part).split("\n")]


def when_text(when):
    if when[0] == "is":
        return f"is {when[1]} {','.join(when[2])}"
    return " ".join([when[0]] + [when_text(inner) for inner in when[1:]])


FULL = [*part_rows(A), *part_rows(B), *part_rows(C), "node one book a always", "node two book b is who child",
        "node in two c always", "key book k ink", "key book l <k>s", "edition kids loose dutch child",
        "edition folk loose latin grown"]
FULL_DONE = ["done"] * 10


class Answers(unittest.TestCase):
    def check(self, rows, wanted, facets=FACETS, forms=FORMS):
        told = answers(facets, forms, "\n".join(rows))
        self.assertEqual((told, type(told)), (wanted, list))

    def then(self, rows, wanted):
        """What is answered behind FULL."""
        self.check(FULL + rows, FULL_DONE + wanted)


class Deeds(Answers):
    def test_full(self):
        self.check(FULL, FULL_DONE)

    def test_parts_one_behind_the_other(self):
        self.check(part_rows(A) + part_rows(B) + ["parts"] + part_rows(C) + ["parts", "deeds"],
                   ["done", "done", "a b", "done", "a b c", "3"])
        self.check(part_rows(A), ["done"])
        self.check(part_rows(B) + part_rows(A) + part_rows(B), ["refused Unsound", "done", "done"])

    def test_a_part_in_the_place_of_another(self):
        self.then(part_rows(("c", "Other", C[2])) + ["make", "rows kids"], [
            "done", "folk: one; kids: one two in",
            "1 On ink; sec; para 1-1: By ink2-1; fig 1-1; 2 Of inks; sec; para 2-1: On ink; fig 2-1; fig 2-2; 2.1 Other; "
            "ink: 1, 2"])

    def test_drop(self):
        self.then(["drop gone", "drop a", "unnode in", "drop c", "parts"],
                  ["refused NoPart", "refused Unsound", "done", "done", "a b"])

    def test_node(self):
        self.check(["node one book - always", "node two one - not is who child,grown", "node one book - always",
                    "node book book - always", "node x gone - always", "node x book gone always", "nodes"],
                   ["done", "done", "refused There", "refused There", "refused NoNode", "refused Unsound", "book one two"])

    def test_node_behind_all_and_by_its_when(self):
        self.then(["node next book c either is who grown is tongue dutch,latin", "make", "nodes"],
                  ["done", "folk: one next; kids: one two in next", "book one two in next"])

    def test_unnode(self):
        self.then(["unnode gone", "unnode book", "unnode two", "unnode in", "unnode two", "nodes"],
                  ["refused NoNode", "refused InUse", "refused InUse", "done", "done", "book one"])

    def test_key_of_one_that_is_there_and_of_a_new_one(self):
        self.then(["key book k pulp", "make", "key one k other", "make"],
                  ["done", "folk: one; kids: one two in", "done", "folk: one; kids: one two"])
        self.check(["key book a <b>", "key book b x", "key book a y", "key book b <a>", "key book a <b>", "key book b ",
                    "key book a <b>"],
                   ["done", "done", "done", "done", "refused Unsound", "done", "done"])
        self.check(["key gone k x", "key gone k <k>", "key book k <k>"],
                   ["refused NoNode", "refused NoNode", "refused Unsound"])

    def test_texts_of_keys(self):
        self.check(part_rows(("t", "<k>|", element(para(("text", "[<k>]"))))) + ["node one book t always",
                   "edition e loose dutch child", "key book k ", "make", "rows e", "key book k  a  b ", "make", "rows e",
                   "key book k key book k", "make", "rows e"],
                   ["done"] * 4 + ["e: one", "1 |; sec; para 1-1: []", "done", "e: one", "1  a  b |; sec; para 1-1: [ a  b ]",
                                   "done", "e: one", "1 key book k|; sec; para 1-1: [key book k]"])

    def test_keys_stay_in_their_places(self):
        """No answer shows the order of keys, so the house itself is asked."""
        house = House(FACETS, FORMS)
        for name, text in (("k", "1"), ("a", "2"), ("k", "3"), ("b", ""), ("a", "")):
            self.assertEqual(do_key(house, "book", name, text), "done")
        self.assertEqual(house.plan()[3], (("k", "3"), ("a", ""), ("b", "")))
        self.assertEqual(do_unkey(house, "book", "a"), "done")
        self.assertEqual(house.plan()[3], (("k", "3"), ("b", "")))
        self.assertEqual(house.deeds(), 6)

    def test_unkey(self):
        self.then(["unkey gone k", "unkey gone gone", "unkey book gone", "unkey one k", "unkey book k", "make", "unkey book k",
                   "unkey book l", "unkey book l"],
                  ["refused NoNode", "refused NoNode", "refused NoKey", "refused NoKey", "done", "folk: one; kids: one two in",
                   "refused NoKey", "done", "refused NoKey"])

    def test_unkey_may_be_unsound(self):
        ten = "<a>" * 10
        self.check(["key book a " + "x" * 40, f"key book b {ten}", "node one book - always", "key one b ", "key one c <b>.",
                    "unkey one b", "unkey one c", "unkey one b", "deeds"],
                   ["done"] * 5 + ["refused Unsound", "done", "done", "7"])

    def test_edition_and_end(self):
        self.then(["edition kids loose latin child", "edition new gone latin child", "edition new wordy latin child",
                   "edition new loose latin child", "editions", "end gone", "end kids", "end kids", "editions"],
                  ["refused There", "refused NoForm", "refused Unlawful", "done", "folk kids new", "refused NoEdition", "done",
                   "refused NoEdition", "folk new"])

    def test_make(self):
        self.check(["make", "edition e loose dutch child", "make", "edition d loose dutch child", "make"],
                   ["-", "done", "e: -", "done", "d: -; e: -"])
        self.then(["make", "make", "key one k pulp", "make"],
                  ["folk: one; kids: one two in", "folk: -; kids: -", "done", "folk: one; kids: one two"])

    def test_undo(self):
        self.check(["undo", "key book k x", "undo", "undo", "unkey book k"], ["no", "done", "yes", "no", "refused NoKey"])
        self.then(["undo", "editions", "make", "undo", "rows kids", "drop gone", "undo", "editions", "deeds"],
                  ["yes", "kids", "kids: one two in", "yes", "-", "refused NoPart", "yes", "-", "8"])

    def test_unlawful(self):
        self.check(part_rows(FOUL) + ["node one book foul always", "edition e narrow latin grown", "edition f narrow latin child",
                                      *part_rows(("foul", "", element(fig()))), "editions"],
                   ["done", "done", "done", "refused Unlawful", "refused Unlawful", "e"])
        self.check(part_rows(ODD) + ["edition e loose latin grown", "node one book odd always", "nodes"],
                   ["done", "done", "refused Unlawful", "book"])

    def test_refused_ones_change_nothing(self):
        self.then(["deeds", "drop gone", "node one book - always", "unnode book", "end gone", "edition kids loose dutch child",
                   "key book k <k>", "deeds", "undo", "deeds"],
                  ["10", "refused NoPart", "refused There", "refused InUse", "refused NoEdition", "refused There",
                   "refused Unsound", "10", "yes", "9"])


class Asks(Answers):
    def test_bare(self):
        self.check(["parts", "nodes", "editions", "deeds"], ["-", "book", "-", "0"])

    def test_rows(self):
        self.then(["rows kids", "make", "rows kids", "rows folk", "rows gone"], [
            "-", "folk: one; kids: one two in",
            "1 On ink; sec; para 1-1: By ink2-1; fig 1-1; 2 Of inks; sec; para 2-1: On ink; fig 2-1; fig 2-2; 2.1 Alone; "
            "ink: 1, 2", "1 On ink; sec; para 1-1: By ink?; fig 1-1; ink: 1", "refused NoEdition"])

    def test_rows_of_no_chapter(self):
        self.check(["edition e loose dutch child", "rows e", "make", "rows e", "index e", "lost e"],
                   ["done", "-", "e: -", "-", "-", "-"])

    def test_index(self):
        self.then(["index kids", "index folk", "index gone", "node x one c always", "index folk"],
                  ["ink: 1, 2", "ink: 1", "refused NoEdition", "done", "ink: 1; ink, red: 1.1"])

    def test_lost(self):
        lost = ("d", "", element(para(("ref", "gone", "", "title"), ("ref", "a", "no", "number"), ("ref", "a", "", "title"))))
        self.then(["lost kids", "lost folk", "lost gone", *part_rows(lost), "node x book d always", "lost folk", "lost kids"],
                  ["-", "one>b.x", "refused NoEdition", "done", "done", "one>b.x x>gone. x>a.no", "x>gone. x>a.no"])

    def test_parts_nodes_editions_deeds(self):
        self.then(["parts", "nodes", "editions", "deeds"], ["a b c", "book one two in", "folk kids", "10"])


class BadRows(Answers):
    def bad(self, wanted, rows, facets=FACETS):
        check_refused(self, BadRow, wanted, answers, [("facets", facets), ("forms", FORMS), ("text", "\n".join(rows))])

    def test_bare(self):
        self.bad(0, [""])
        self.bad(0, ["", "make"])
        self.bad(1, ["make", ""])
        self.bad(1, ["make", "", "make"])
        self.bad(0, ["", ""])

    def test_words(self):
        for row in ("", " ", "make ", " make", "make x", "Make", "makes", "undo ", "undo x", "undo 1", "parts ", "parts a",
                    "nodes x", "editions x", "deeds ", "deeds 0", "drop", "drop ", "drop a b", "drop  a", "drop a ", "drop A",
                    "drop -", "drop abcdefghi", "drop a,b", "unnode", "unnode ", "unnode a b", "unnode -", "end", "end ", "end a b",
                    "end A", "rows", "rows ", "rows a b", "rows -", "rows A", "index", "index ", "index a b", "index -", "lost",
                    "lost ", "lost a b", "lost -", "unkey", "unkey a", "unkey a ", "unkey a b c", "unkey a -", "unkey - b",
                    "unkey a  b", "unkey a b ", "|", "| ", "|part a T", "part a T", "as_of 1", "twin", "log", "book kids",
                    "set_keys a", "entries kids", "lawful", "done", "help", "make\t", "\tmake", "nonsense"):
            self.bad(0, [row])
            self.bad(2, ["make", "undo", row, "make"])
            self.bad(0, [row, "nonsense"])

    def test_node(self):
        for row in ("node", "node a", "node a book", "node a book -", "node a book - ", "node a book b", "node a book  always",
                    "node a book - always ", "node a book - always x", "node a  - always", "node - book - always",
                    "node a - - always", "node A book - always", "node a book B always", "node a book abcdefghi always",
                    "node a book -- always", "node a book - never", "node a book - is who", "node a book - is who dutch",
                    "node a book - is who grown,child", "node a book - not", "node a book - not not not not always",
                    "node a book -  always", " node a book - always", "node  a book - always", "node a book always",
                    "node a book - always always", "node a book - both always", "node a book - - always",
                    "node abcdefghi book - always", "node a book - always 0"):
            self.bad(0, [row])
        self.check(["node a book - always"], ["done"])

    def test_key(self):
        for row in ("key", "key ", "key book", "key book k", "key book  x", "key  k x", "key - k x", "key book - x", "key Book k x",
                    "key book K x", "key book k " + "x" * 41, "key book k 5%", "key book abcdefghi x", " key book k x",
                    "key  book k x", "key book k \t", "keys book k x"):
            self.bad(0, [row])
        self.check(["key book k " + "x" * 40, "key book k ", "key book k  "], ["done"] * 3)

    def test_edition(self):
        for row in ("edition", "edition e", "edition e loose", "edition e loose ", "edition e loose dutch",
                    "edition e loose child dutch", "edition e loose dutch child ", "edition e loose dutch child x",
                    "edition e loose dutch  child", "edition e  dutch child", "edition - loose dutch child",
                    "edition e - dutch child", "edition E loose dutch child", "edition e Loose dutch child",
                    "edition e loose dutch,child", "edition e loose french child", "edition e loose dutch -",
                    "edition dutch child", "edition e dutch child"):
            self.bad(0, [row])
        self.check(["edition e loose child"], ["done"], FACETS_ONE)
        self.bad(0, ["edition e loose dutch child"], FACETS_ONE)
        self.bad(0, ["edition e loose child"], FACETS_TWO)

    def test_rows_of_parts(self):
        rows = part_rows(A)
        for at in range(len(rows)):
            for other in ("| nonsense", "| ", "|", "| . sec", rows[at] + "%", rows[at].replace("| ", "|  ")):
                self.bad(at, rows[:at] + [other] + rows[at + 1:])
                self.bad(at + 1, ["make"] + rows[:at] + [other] + rows[at + 1:])
                self.bad(at + len(rows), rows + rows[:at] + [other] + rows[at + 1:])

    def test_rows_that_begin_no_part(self):
        self.bad(0, ["| . sec - - always"])
        self.bad(1, ["make", "| . sec - - always"])
        self.bad(0, ["| part"])
        self.bad(0, ["| part "])
        self.bad(0, ["|  part a T", "| . sec - - always"])
        self.bad(3, ["| part a T", "| . sec - - always", "make", "| .. sec - - always"])
        self.bad(2, ["| part a T", "| . sec - - always", "| part"])

    def test_a_part_that_ends_too_early(self):
        self.bad(1, ["| part a T"])
        self.bad(1, ["| part a T", "make"])
        self.bad(1, ["| part a T", "nonsense"])
        self.bad(1, ["| part a T", *part_rows(C)])
        self.bad(3, ["make", "make", "| part a T", "parts", "nonsense"])
        self.bad(len(part_rows(A)) + 1, part_rows(A) + ["| part b T"])

    def test_the_first_bad_row(self):
        self.bad(1, ["make", "nonsense", "more nonsense"])
        self.bad(3, ["make", "| part a T", "| . sec - - always", "| . sec - - always", "nonsense"])
        self.bad(2, ["| part a T", "| . sec - - always", "nonsense", "| part"])

    def test_ahead_of_all_answers(self):
        """A row that is so written but refused is no bad row, one behind it that isn't is told all the same."""
        self.bad(3, ["drop gone", "unkey gone k", "end gone", "nonsense"])
        self.bad(len(FULL), FULL + ["make "])

    def test_facets_are_those_handed_in(self):
        self.bad(0, ["node a book - is tongue dutch"], FACETS_ONE)
        self.bad(1, ["| part a T", "| . sec - - is tongue dutch"], FACETS_ONE)
        self.check(["| part a T", "| . sec - - is tongue dutch"], ["done"])


class Whole(Answers):
    def test_by_chance(self):
        chance = random.Random(431)
        told = {}
        for _ in range(60):
            account = Account(FACETS, FORMS)
            rows, wanted = [], []
            while len(rows) < 150:
                some = self.some_order(chance)
                rows += some
                wanted.append(self.answer(account, some))
                word = (some[0].split()[0], wanted[-1].split()[1] if wanted[-1].startswith("refused") else "")
                told[word] = told.get(word, 0) + 1
            self.check(rows, wanted)
        for word in ("|", "drop", "node", "unnode", "key", "unkey", "edition", "end", "make", "undo", "rows", "index", "lost",
                     "parts", "nodes", "editions", "deeds"):
            self.assertTrue(told.get((word, ""), 0) > 10, (word, told))
        self.assertTrue({error for _, error in told} >= {"NoPart", "NoNode", "NoKey", "NoForm", "NoEdition", "There", "InUse",
                                                         "Unsound", "Unlawful"}, told)

    def some_order(self, chance):
        if chance.random() < 0.4:
            ask = chance.choice(("rows", "index", "lost", "parts", "nodes", "editions", "deeds", "unkey", "key", "key"))
            if ask == "key":
                return [f"key {chance.choice(('book', 'one', 'gone'))} {chance.choice('kl')} {chance.choice(('', 'x', 'y', '<l>'))}"]
            if ask == "unkey":
                return [f"unkey {chance.choice(('book', 'one', 'gone'))} {chance.choice('kl')}"]
            return [f"{ask} {chance.choice('pqrs')}" if ask in ("rows", "index", "lost") else ask]
        if chance.random() < 0.2:
            return part_rows(chance.choice(POOL[:3]))
        word, args, more = some_deed(chance)
        if word == "part":
            return part_rows(*args)
        if word == "set_keys":
            return ["make"]
        if word == "node":
            return [f"node {args[0]} {args[1]} {more.get('part') or '-'} {when_text(more.get('when', ('always',)))}"]
        if word == "edition":
            return [f"edition {args[0]} {args[1]} {' '.join(args[2])}"]
        return [" ".join((word,) + args)]

    def answer(self, account, rows):
        """What the account comes to, by the words of the row."""
        word, *rest = rows[0].split(" ")
        then = account.now()
        names = account.names(then)
        if word in ("rows", "index", "lost"):
            return self.told_of_edition(account, word, rest[0])
        if word in ("parts", "editions"):
            return " ".join(sorted(then[word])) or "-"
        if word in ("nodes", "deeds"):
            return " ".join(names) if word == "nodes" else str(len(account.states) - 1)
        if word == "|":
            part = [one for one in POOL if part_rows(one) == rows][0]
            refused, _ = account.do("part", (part,), {})
        elif word == "node":
            when = [one for one in (("always",), ("is", "who", ("child",)), ("is", "tongue", ("latin",)))
                    if when_text(one) == " ".join(rest[3:])][0]
            refused, _ = account.do("node", (rest[0], rest[1]), {"part": rest[2].replace("-", ""), "when": when})
        elif word in ("key", "unkey"):
            if rest[0] not in names:
                return "refused NoNode"
            keys = dict(node_at(then["plan"], rest[0])[3])
            if word == "unkey" and keys.pop(rest[1], None) is None:
                return "refused NoKey"
            keys.update({rest[1]: rest[2]} if word == "key" else {})
            refused, _ = account.do("set_keys", (rest[0], tuple(keys.items())), {})
        elif word == "edition":
            refused, _ = account.do("edition", (rest[0], rest[1], tuple(rest[2:])), {})
        else:
            refused, told = account.do(word, tuple(rest), {})
            if word == "make":
                return "; ".join(f"{name}: {' '.join(made) or '-'}" for name, made in told) or "-"
            if word == "undo":
                return "yes" if told else "no"
        return f"refused {refused[0].__name__}" if refused else "done"

    def told_of_edition(self, account, word, name):
        if name not in account.now()["editions"]:
            return "refused NoEdition"
        _, _, index, lost = [one for one in account.asks()[3] if one[0] == name][0]
        if word == "rows":
            return "; ".join(account.now()["rows"].get(name, [])) or "-"
        if word == "index":
            return "; ".join(index_rows(index)) or "-"
        return " ".join(f"{at}>{ref[1]}.{ref[2]}" for at, _, ref in lost) or "-"

    def test_by_names(self):
        check_call(self, answers, [("facets", FACETS), ("forms", FORMS), ("text", "\n".join(FULL + ["make", "rows kids"]))])


if __name__ == "__main__":
    unittest.main()
