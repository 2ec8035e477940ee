"""Documents: trees that are edited, and tell their changes as records."""

from lookon.errors import InvalidArgument, NoSuchNode, RefusedError
from lookon.names import MOST_NODES, is_name, is_number, is_plain


class Node:
    """A node of a document: an element has a name, a text has words."""

    def __init__(self, name, words):
        self.name = name
        self.words = words
        self.marks = {}
        self.up = None
        self.below = []


class Document:
    """A document, at first with its top alone."""

    def __init__(self):
        self._kept = [Node("top", None)]
        self._told = []

    def element(self, name):
        """Make an element, and return its number."""
        if not is_name(name):
            raise InvalidArgument("name")
        return self._make(name, None)

    def text(self, text):
        """Make a text, and return its number."""
        if not is_plain(text):
            raise InvalidArgument("text")
        return self._make(None, text)

    def insert(self, parent, child, before=None):
        """Insert a node into an element, ahead of its child `before` or at the end."""
        self._check_insert(parent, child, before)
        if self._is_there(parent, child, before):
            return
        if self._kept[child].up is not None:
            self.remove(child)
        siblings = self._kept[parent].below
        at = len(siblings) if before is None else siblings.index(before)
        siblings.insert(at, child)
        self._kept[child].up = parent
        self._tell(("put", parent, self.shape(child), before))

    def remove(self, child):
        """Take a node out of its parent."""
        node = self._node(child)
        parent = node.up
        if parent is None:
            raise RefusedError("no parent")
        self._kept[parent].below.remove(child)
        node.up = None
        self._tell(("out", parent, child))

    def mark(self, number, name, value):
        """Give an element a mark."""
        self._check_mark(number, name)
        if not is_plain(value):
            raise InvalidArgument("value")
        self._set_mark(number, name, value)

    def unmark(self, number, name):
        """Take a mark from an element."""
        self._check_mark(number, name)
        self._set_mark(number, name, None)

    def write(self, number, text):
        """Give a text node a text."""
        node = self._node(number)
        if not is_plain(text):
            raise InvalidArgument("text")
        if node.name is not None:
            raise RefusedError("not a text")
        if node.words == text:
            return
        node.words = text
        self._tell(("text", number, text))

    def shape(self, number=0):
        """Return the shape of a node, with all below it."""
        node = self._node(number)
        if node.name is None:
            return ("t", number, node.words)
        marks = tuple(sorted(node.marks.items()))
        return ("e", number, node.name, marks, tuple([self.shape(child) for child in node.below]))

    def parent(self, number):
        """Return the number of the parent of a node, or None."""
        return self._node(number).up

    def children(self, number):
        """Return the list of the numbers of the children of a node."""
        return list(self._node(number).below)

    def above(self, number):
        """Return the tuple of a node, its parent, and so on."""
        node = self._node(number)
        way = [number]
        while node.up is not None:
            way.append(node.up)
            node = self._kept[node.up]
        return tuple(way)

    def nodes(self):
        """Return how many nodes there are."""
        return len(self._kept)

    def changes(self, start=0):
        """Return the list of all changes, from the index `start` on."""
        return self._told[start:]

    def _node(self, number):
        """Return the node with this number."""
        if not is_number(number) or number >= len(self._kept):
            raise NoSuchNode(number)
        return self._kept[number]

    def _make(self, name, words):
        """Keep a new node, and return its number."""
        if len(self._kept) >= MOST_NODES:
            raise RefusedError("full")
        self._kept.append(Node(name, words))
        return len(self._kept) - 1

    def _tell(self, record):
        """Keep a change, with what is above its target now."""
        self._told.append((record, self.above(record[1])))

    def _check_insert(self, parent, child, before):
        """Raise the error that is due for an insert."""
        place = self._node(parent)
        self._node(child)
        if before is not None:
            self._node(before)
        if place.name is None:
            raise RefusedError("not an element")
        if child == 0:
            raise RefusedError("top")
        if child in self.above(parent):
            raise RefusedError("inside itself")
        if before is not None and (before == child or before not in place.below):
            raise RefusedError("not a child")

    def _is_there(self, parent, child, before):
        """Return whether a node stands in this parent, ahead of this child or at the end."""
        siblings = self._kept[parent].below
        if child not in siblings:
            return False
        behind = siblings[siblings.index(child) + 1:]
        return behind[:1] == ([] if before is None else [before])

    def _check_mark(self, number, name):
        """Raise the first errors that are due for a mark."""
        self._node(number)
        if not is_name(name):
            raise InvalidArgument("name")

    def _set_mark(self, number, name, value):
        """Give an element a mark, or take it if the value is None."""
        node = self._kept[number]
        if node.name is None:
            raise RefusedError("not an element")
        if node.marks.get(name) == value:
            return
        if value is None:
            del node.marks[name]
        else:
            node.marks[name] = value
        self._tell(("mark", number, name, value))
