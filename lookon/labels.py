"""Labels: the cases of an element by itself that a test can tell apart.

A label is a tuple of the name of an element, its marks as in a shape, and the texts that are among its children. In
place of all names, values and texts that a test does not mention stands a single one."""

from lookon.queries import marks_of, names_of, texts_of, values_of

LETTERS = "abcdefghijklmnopqrstuvwxyz"


def unlike(texts):
    """Return a name that is none of these texts, of which there are fewer than 26 times 26."""
    names = [one + other for one in LETTERS for other in LETTERS]
    return [name for name in names if name not in texts][0]


def count_labels(test):
    """Return how many labels a test has."""
    many = len(names_of(test)) + 1
    for mark in marks_of(test):
        many *= len(values_of(test, mark)) + 2
    for _ in texts_of(test):
        many *= 2
    return many


def labels_of(test):
    """Return the list of the labels of a test, those with fewer texts ahead."""
    names = names_of(test)
    labels = [(name, (), ()) for name in names + [unlike(names)]]
    for mark in marks_of(test):
        labels = [(name, marks + case, texts) for name, marks, texts in labels for case in _cases(test, mark)]
    for text in texts_of(test):
        labels = [(name, marks, texts + case) for name, marks, texts in labels for case in ((), (text,))]
    return sorted(labels, key=size_of)


def _cases(test, mark):
    """Return the list of the cases of a mark: none of it, or one of its values."""
    values = values_of(test, mark)
    return [()] + [((mark, value),) for value in values + [unlike(values)]]


def size_of(label):
    """Return how many nodes an element with this label has at least, its texts counted."""
    return 1 + len(label[2])


def mark_changes(test, mark):
    """Return the list of the pairs of labels that differ in a mark alone, one without it ahead of one with it."""
    # Where two values of the mark make a difference, none of it and one of them make one as well.
    changes = []
    for name, marks, texts in labels_of(test):
        rest = tuple([pair for pair in marks if pair[0] != mark])
        if rest != marks:
            changes.append(((name, rest, texts), (name, marks, texts)))
    return changes


def text_changes(test):
    """Return the list of the pairs of labels that differ in a text alone, which the second one has as its first."""
    # Where one text in place of another makes a difference, none of them and one of them make one as well.
    changes = []
    for name, marks, texts in labels_of(test):
        for text in texts:
            rest = tuple([other for other in texts if other != text])
            changes.append(((name, marks, rest), (name, marks, (text,) + rest)))
    return changes
