"""Drawing: the view in which a path stands.

A path is drawn from a list of pairs, one for each element on it: whether it is deeper than the one ahead of it, and
its label, of which the texts may be any."""

from lookon.labels import size_of


def numbers_on(path):
    """Return the list of the numbers of the elements on a path in its view."""
    numbers = []
    many = 0
    for _, label in path:
        numbers.append(many)
        many += size_of(label)
    return numbers


def drawn(path):
    """Return the view of a path, its nodes numbered in order from 0 on."""
    numbers = numbers_on(path)
    # What stands behind an element on the path: its siblings, or its children if these are deeper.
    row = ()
    deeper = False
    for place in reversed(range(len(path))):
        children = row if deeper else ()
        siblings = () if deeper else row
        deeper, label = path[place]
        row = (_element(numbers[place], label, children),) + siblings
    return row[0]


def _element(number, label, children):
    """Return the element with this number and label, its texts numbered from there on and ahead of its children."""
    texts = [("t", number + 1 + at, text) for at, text in enumerate(label[2])]
    return ("e", number, label[0], label[1], tuple(texts) + children)
