"""A house: parts, a plan and editions that are kept over many deeds."""

from sheafbooks.errors import NoDeed
from sheafbooks.indexes import index_of
from sheafbooks.judging import judged
from sheafbooks.puts import put_in
from sheafbooks.refs import lost_refs
from sheafbooks.standing import (
    all_made, bare_standing, book_now, edition_called, parts_by_names, refuse_unfit, with_edition, with_keys, with_node,
    with_part, without_edition, without_node, without_part)
from sheafbooks.whens import ALWAYS


class House:
    """Does deeds and undoes them, and tells of what stands."""

    def __init__(self, facets, forms, *, top="book"):
        self.facets = facets
        self.forms = forms
        # What stood ahead of the first deed, and behind each one that is done and not undone.
        self.stood = [bare_standing(top)]
        self.journal = []

    def logged(self, word, work):
        """What a deed's work tells; the log has both its ends, though it be refused."""
        self.journal.append(("in", word))
        try:
            return work()
        finally:
            self.journal.append(("out", word))

    def now(self):
        """What stands."""
        return self.stood[-1]

    def stand(self, then):
        """Let this stand from now on, unless it's refused."""
        refuse_unfit(self.facets, self.forms, then)
        self.stood.append(then)

    def part(self, part):
        """Let a PART stand, in the place of one of its name."""
        self.logged("part", lambda: self.stand(with_part(self.now(), part)))

    def drop(self, name):
        """Let the part of that name go."""
        self.logged("drop", lambda: self.stand(without_part(self.now(), name)))

    def node(self, name, above, *, part="", when=ALWAYS, place=None):
        """Let a NODE more stand straight under the one called above."""
        one = (name, part, when, (), ())
        self.logged("node", lambda: self.stand(with_node(self.now(), one, above, place)))

    def unnode(self, name):
        """Let the node of that name go."""
        self.logged("unnode", lambda: self.stand(without_node(self.now(), name)))

    def set_keys(self, node, keys):
        """Let these keys alone stand at a node."""
        self.logged("set_keys", lambda: self.stand(with_keys(self.now(), node, tuple(keys))))

    def edition(self, name, form, setting):
        """Begin an edition."""
        self.logged("edition", lambda: self.stand(with_edition(self.now(), self.forms, name, form, setting)))

    def end(self, name):
        """End the edition of that name."""
        self.logged("end", lambda: self.stand(without_edition(self.now(), name)))

    def make(self):
        """Let each edition's Maker make its book; the pairs (edition, made)."""
        return self.logged("make", lambda: self.make_all())

    def make_all(self):
        """The work of make."""
        then, told = all_made(self.facets, self.now())
        self.stood.append(then)
        return told

    def undo(self):
        """Let the last deed that is done and not undone be as if it hadn't been; whether there was one."""
        return self.logged("undo", lambda: self.take_back())

    def take_back(self):
        """The work of undo."""
        if self.deeds() == 0:
            return False
        self.stood.pop()
        return True

    def parts(self):
        """The PARTs, their names rising."""
        return parts_by_names(self.now())

    def plan(self):
        """The PLAN."""
        return self.now()[1]

    def editions(self):
        """The rising list of the triples (name, form, setting)."""
        editions = self.now()[2]
        return [(name, editions[name][0], editions[name][1]) for name in sorted(editions)]

    def book(self, edition):
        """The CHAPTERs of an edition's book."""
        return book_now(self.facets, self.now(), edition_called(self.now(), edition)[1])

    def entries(self, edition):
        """The index of an edition's book."""
        return index_of(self.book(edition))

    def lost(self, edition):
        """The refs in an edition's book that mean none."""
        return lost_refs(self.book(edition))

    def rows(self, edition):
        """The rows of an edition's book as made last, None ahead of that."""
        told = edition_called(self.now(), edition)[3]
        return None if told is None else list(told)

    def lawful_in_all(self):
        """The rising list of the pairs (form, part) of which a part, put in, isn't lawful in all settings."""
        parts = self.parts()
        whole = [(part[0], put_in(parts, part[0])) for part in parts]
        return [(form, name) for form, rules, counts in self.forms for name, element in whole
                if judged(self.facets, rules, element)[0] == "unlawful"]

    def deeds(self):
        """How many deeds are done and not undone."""
        return len(self.stood) - 1

    def as_of(self, many):
        """A House of its own as this one was behind so many deeds."""
        if not 0 <= many <= self.deeds():
            raise NoDeed(many)
        other = House(self.facets, self.forms)
        other.stood = self.stood[:many + 1]
        return other

    def twin(self):
        """A House of its own as this one is."""
        return self.as_of(self.deeds())

    def log(self):
        """The beginnings and ends of all deeds, refused and undone ones too."""
        return list(self.journal)

    def is_open(self):
        """Whether no deed is at work."""
        return len(self.journal) == 0 or self.journal[-1][0] == "out"

    def shown(self):
        """What two houses are told alike or unlike by."""
        return self.facets, self.forms, self.parts(), self.plan(), self.editions()

    def __eq__(self, other):
        return isinstance(other, House) and self.shown() == other.shown()

    def __len__(self):
        return len(self.stood[-1][0])
