"""Touching: which kinds of records can change what a query finds."""

from lookon.drawing import drawn, numbers_on
from lookon.errors import InvalidArgument, RefusedError
from lookon.labels import count_labels, labels_of, mark_changes, text_changes, unlike
from lookon.matching import answer
from lookon.names import is_name
from lookon.paths import Search, links_to
from lookon.queries import looks_back, subtests, texts_of
from lookon.shapes import find, numbers_of, parent_of, replaced, without_child

# With more than these a test is wide.
MOST_LABELS = 60
MOST_TESTS = 12


def touching(test, kind):
    """Return a view and a record of a kind that fits it and changes the answer of a test, or None."""
    if not _is_kind(kind):
        raise InvalidArgument("kind")
    if not looks_back(test):
        raise RefusedError("forward")
    if len(subtests(test)) > MOST_TESTS or count_labels(test) > MOST_LABELS:
        raise RefusedError("wide")
    if kind[0] == "mark":
        return _shown_by_mark(test, kind[1])
    if kind[0] == "text":
        return _shown_by_text(test)
    return _shown_by_child(test, kind[0])


def _is_kind(value):
    """Return whether anything is a kind of records."""
    if not isinstance(value, tuple):
        return False
    if len(value) == 2:
        return value[0] == "mark" and is_name(value[1])
    return value in (("text",), ("put",), ("out",))


def _shown_by_mark(test, mark):
    """Return a view and a record of a mark that show it, or None."""
    links = _links_to_change(test, mark_changes(test, mark))
    if not links:
        return None
    path = _path_before(links)
    place = _place_of_change(links)
    value = dict(links[place].labels[1][1])[mark]
    return (drawn(path), ("mark", numbers_on(path)[place], mark, value))


def _shown_by_text(test):
    """Return a view and a record of a text that show it, or None."""
    links = _links_to_change(test, text_changes(test))
    if not links:
        return None
    path = _path_before(links)
    place = _place_of_change(links)
    # The text is there ahead of the record, as one that the test does not mention.
    deeper, (name, marks, texts) = path[place]
    path[place] = (deeper, (name, marks, (unlike(texts_of(test)),) + texts))
    return (drawn(path), ("text", numbers_on(path)[place] + 1, links[place].labels[1][2][0]))


def _links_to_change(test, changes):
    """Return the list of the elements on the shortest path that shows one of these changes, the empty one if none."""
    # A search without changes would ask for something else.
    return links_to(Search(test, labels_of(test), changes).shortest()) if changes else []


def _path_before(links):
    """Return the list of pairs from which the path is drawn as it is ahead of a record."""
    return [(link.deeper, link.labels[0]) for link in links]


def _place_of_change(links):
    """Return the place of the element on a path whose label changes."""
    return [place for place, link in enumerate(links) if link.labels[0] != link.labels[1]][0]


def _shown_by_child(test, word):
    """Return a view and a record, a put or an out, that show it, or None."""
    # What a child changes in what stands around it, it shows no sooner: an element below the root that fulfils the test
    # before or behind the record shows it as a child itself. So there are left such an element, and texts of the root.
    shown = _elements_below(test) + _texts_of_root(test)
    if not shown:
        return None
    whole, number = min(shown, key=lambda pair: len(numbers_of(pair[0])))
    parent = parent_of(whole, number)
    if word == "out":
        return (whole, ("out", parent, number))
    rest = without_child(find(whole, parent), number)
    return (replaced(whole, parent, rest), ("put", parent, find(whole, number), None))


def _elements_below(test):
    """Return a list of the smallest view with an element below the root that fulfils a test, and its number; or none.

    It is the last child of its parent."""
    path = _path_before(links_to(Search(test, labels_of(test), []).shortest()))
    return [(drawn(path), numbers_on(path)[-1])] if path else []


def _texts_of_root(test):
    """Return a list of the smallest view of a root with a text on which its answer hangs, and its number; or none."""
    for old, new in text_changes(test):
        whole = drawn([(True, new)])
        if answer(whole, test) != answer(drawn([(True, old)]), test):
            return [(whole, whole[4][0][1])]
    return []
