"""Matching: which elements of a view fulfil a test."""

from lookon.queries import subtests, tests_in
from lookon.shapes import mark_of, parts_of


class Places:
    """The elements of a view in order; each is told by its place there, and so are those around it."""

    def __init__(self, shape):
        self.parts = [part for part in parts_of(shape) if part[0] == "e"]
        places = {part[1]: place for place, part in enumerate(self.parts)}
        self.inner = [[places[child[1]] for child in part[4] if child[0] == "e"] for part in self.parts]
        self.up = [None for _ in self.parts]
        self.ahead = [None for _ in self.parts]
        self.after = [None for _ in self.parts]
        for place, inner in enumerate(self.inner):
            for deeper in inner:
                self.up[deeper] = place
            for left, right in zip(inner, inner[1:]):
                self.ahead[right] = left
                self.after[left] = right


def answer(shape, test):
    """Return the list of the numbers of all elements of a view that fulfil a test, in order."""
    places = Places(shape)
    tests = subtests(test)
    # Of each test, by the places of the elements, whether they fulfil it.
    held = []
    for each in tests:
        inner = [held[tests.index(deeper)] for deeper in tests_in(each)]
        held.append(_held(places, each, inner))
    return [part[1] for part, holds in zip(places.parts, held[-1]) if holds]


def _held(places, test, inner):
    """Return the list of whether the elements fulfil a test; `inner` has these lists of the tests in it."""
    word = test[0]
    if word in ("not", "both", "one"):
        return _joined(word, inner)
    if word == "under":
        return _beside(places.up, inner[0])
    if word == "in":
        return _along(places.up, inner[0])
    if word == "next":
        return _beside(places.ahead, inner[0])
    if word == "behind":
        return _along(places.ahead, inner[0])
    if word == "over":
        return [any([inner[0][child] for child in children]) for children in places.inner]
    if word == "has":
        return _below(places.inner, inner[0])
    return [_holds(places, place, test) for place in range(len(places.parts))]


def _joined(word, inner):
    """Return the list of whether all of these tests hold of each element, or some, or the only one does not."""
    places = range(len(inner[0]))
    if word == "both":
        return [all([held[place] for held in inner]) for place in places]
    if word == "one":
        return [any([held[place] for held in inner]) for place in places]
    return [not holds for holds in inner[0]]


def _beside(neighbours, held):
    """Return the list of whether it holds of the neighbour of each element."""
    return [place is not None and held[place] for place in neighbours]


def _along(neighbours, held):
    """Return the list of whether it holds of the neighbour of each element, or of one further on."""
    found = []
    # Each neighbour stands ahead in the order, so what is asked for is there.
    for place in neighbours:
        found.append(place is not None and (held[place] or found[place]))
    return found


def _below(inner, held):
    """Return the list of whether it holds of some element below each element."""
    found = [False for _ in inner]
    # Backwards each element comes behind its children, so what is asked for is there.
    for place in reversed(range(len(inner))):
        found[place] = any([held[child] or found[child] for child in inner[place]])
    return found


def _holds(places, place, test):
    """Return whether an element fulfils a test without a test in it."""
    part = places.parts[place]
    if test[0] == "name":
        return part[2] == test[1]
    if test[0] == "mark":
        return mark_of(part, test[1]) is not None
    if test[0] == "value":
        return mark_of(part, test[1]) == test[2]
    if test[0] == "text":
        return any([child[0] == "t" and child[2] == test[1] for child in part[4]])
    if test[0] == "first":
        return places.ahead[place] is None
    if test[0] == "last":
        return places.after[place] is None
    if test[0] == "empty":
        return not part[4]
    return True
