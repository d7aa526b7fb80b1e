"""Makers: the rows of a book, made anew where what they read was changed."""

from sheafbooks.errors import NoNode
from sheafbooks.indexes import index_of
from sheafbooks.reads import index_rows, reads_of, rows_by


class Maker:
    """Keeps for each node what its chapter's rows read when they were made, and the rows."""

    def __init__(self, counts):
        self.counts = counts
        # By nodes the pairs (reads, rows), both tuples: so a twin may have the same ones.
        self.chapters = {}

    def make(self, book, plan):
        """The pair (rows, made): all rows of a book, and the nodes whose chapters were made now."""
        reads = {chapter[0]: tuple(reads_of(book, plan, self.counts, chapter[0])) for chapter in book}
        made = [node for node in reads if not self.keeps(node, reads[node])]
        fresh = {node: (reads[node], tuple(rows_by(reads[node], self.counts))) for node in made}
        self.chapters = {node: fresh[node] if node in fresh else self.chapters[node] for node in reads}
        rows = [row for node in reads for row in self.chapters[node][1]]
        return rows + index_rows(index_of(book)), made

    def keeps(self, node, reads):
        """Whether just this is kept as read by a node's chapter."""
        return node in self.chapters and self.chapters[node][0] == reads

    def kept(self):
        """The rising list of the nodes whose chapters are kept."""
        return sorted(self.chapters)

    def reads(self, node):
        """What a node's chapter read when its rows were made."""
        if node not in self.chapters:
            raise NoNode(node)
        return list(self.chapters[node][0])

    def forget(self, node):
        """Keep nothing of a node's chapter."""
        if node not in self.chapters:
            raise NoNode(node)
        del self.chapters[node]

    def twin(self):
        """A Maker of its own that keeps the same."""
        other = Maker(self.counts)
        other.chapters = dict(self.chapters)
        return other

    def __eq__(self, other):
        return isinstance(other, Maker) and self.counts == other.counts and self.chapters == other.chapters

    def __len__(self):
        return len(self.chapters)
