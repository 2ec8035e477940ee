"""Paths: the fewest elements on which it hangs that a record changes an answer.

What a test that looks back says of an element hangs on a path alone: from the root to the element, each one on it the
first child or the next sibling of the one ahead of it."""

from lookon.contexts import Contexts
from lookon.labels import size_of


class Link:
    """An element on a path, with its labels before and behind the record, and the path ahead of it.

    It is deeper if it is the first child of the one ahead of it, not its next sibling."""

    def __init__(self, ahead, deeper, labels):
        self.ahead = ahead
        self.deeper = deeper
        self.labels = labels


def links_to(link):
    """Return the list of the elements on a path, from the root to this last one, or the empty one for None."""
    links = []
    while link is not None:
        links.append(link)
        link = link.ahead
    return links[::-1]


class Search:
    """Finds a path with the fewest nodes, to an element that fulfils a test before or behind a change alone.

    The changes are pairs of labels of one element. Without any it finds a path to an element below the root that
    fulfils the test."""

    def __init__(self, test, labels, changes):
        self._contexts = Contexts(test)
        self._plain = self._choices([(label, label) for label in labels])
        # A change that the test does not tell apart shows nothing.
        self._changes = [choice for choice in self._choices(changes) if choice[0] != choice[1]]
        self._moves = {}
        # By the number of nodes on a path: the path, and the contexts before and behind the change of what comes next.
        self._waiting = {}
        self._seen = {}

    def _choices(self, pairs):
        """Return the list of the facts of both labels, the number of nodes, and the labels, once for the same facts."""
        choices = {}
        for one, other in pairs:
            facts = (self._contexts.facts_of(one), self._contexts.facts_of(other))
            # Facts tell of all texts, so that labels with the same facts have the same size.
            choices[facts] = (facts[0], facts[1], max(size_of(one), size_of(other)), (one, other))
        return list(choices.values())

    def shortest(self):
        """Return the last element of the path, or None if there is none."""
        begun = self._contexts.begun
        self._extend(0, None, True, (begun, begun))
        while self._waiting:
            many = min(list(self._waiting))
            ready = self._waiting.pop(many)
            for link, deeper, slot in ready:
                if slot is None:
                    return link
                if slot not in self._seen:
                    self._seen[slot] = True
                    self._extend(many, link, deeper, slot)
        return None

    def _extend(self, many, ahead, deeper, slot):
        """Let each element that may stand in these contexts come behind a path with so many nodes."""
        changed = slot[0] != slot[1]
        for one, other, size, labels in self._plain if changed else self._plain + self._changes:
            link = Link(ahead, deeper, labels)
            before = self._move(one, slot[0])
            after = self._move(other, slot[1])
            if self._is_shown(ahead, before[0], after[0]):
                self._wait(many + size, link, True, None)
            # Where the contexts are the same again behind a change, nothing further on shows it.
            untouched = one == other and not changed
            if untouched or before[1] != after[1]:
                self._wait(many + size, link, True, (before[1], after[1]))
            # The root has no siblings.
            if ahead is not None and (untouched or before[2] != after[2]):
                self._wait(many + size, link, False, (before[2], after[2]))

    def _is_shown(self, ahead, before, after):
        """Return whether an element shows it that fulfils the test, or does not, before and behind the change."""
        if self._changes:
            return before != after
        return before and ahead is not None

    def _wait(self, many, link, deeper, slot):
        """Keep a path with so many nodes, and the contexts of what comes next, or None at its end."""
        if slot not in self._seen:
            self._waiting.setdefault(many, []).append((link, deeper, slot))

    def _move(self, facts, context):
        """Return whether an element fulfils the test, and the contexts of its first child and its next sibling."""
        move = self._moves.get((facts, context))
        if move is None:
            contexts = self._contexts
            bits = contexts.fulfilled(facts, context)
            move = (bits & contexts.whole > 0, contexts.first_child(bits), contexts.next_sibling(bits, context))
            self._moves[(facts, context)] = move
        return move
