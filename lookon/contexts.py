"""Contexts: how a test that looks back hangs on what is above an element and what stands before it."""

from lookon.queries import subtests, tests_in


class Contexts:
    """The tests that an element fulfils, by what it is itself and by its context.

    Each test in the whole one has a bit, and what is fulfilled is a number with the bits of these tests. A context is
    such a number, too: with the tests that ask for what is above an element, and for what stands before it."""

    def __init__(self, test):
        tests = subtests(test)
        self.whole = 1 << tests.index(test)
        # The context of the root and of each first child, as far as it does not hang on the parent.
        self.begun = 0
        self._alone = []
        self._joined = []
        self._up = []
        self._ahead = []
        for place, part in enumerate(tests):
            bit = 1 << place
            inner = _bits_of(tests, tests_in(part))
            if part[0] == "first":
                self.begun = bit
            elif part[0] in ("not", "both", "one"):
                self._joined.append((part[0], bit, inner))
            elif part[0] in ("under", "in"):
                self._up.append((bit, inner | bit if part[0] == "in" else inner))
            elif part[0] in ("next", "behind"):
                self._ahead.append((bit, inner | bit if part[0] == "behind" else inner))
            else:
                self._alone.append((part, bit))

    def facts_of(self, label):
        """Return the tests that an element with this label fulfils by itself."""
        facts = 0
        for test, bit in self._alone:
            if _is_label_of(label, test):
                facts = facts | bit
        return facts

    def fulfilled(self, facts, context):
        """Return all tests that an element fulfils with these facts in this context."""
        bits = facts | context
        for word, bit, inner in self._joined:
            if _is_joined(word, bits & inner, inner):
                bits = bits | bit
        return bits

    def first_child(self, bits):
        """Return the context of the first child of an element that fulfils these tests."""
        return self.begun | _seen(self._up, bits)

    def next_sibling(self, bits, context):
        """Return the context of the next sibling of an element that fulfils these tests in this context."""
        up = 0
        for bit, _ in self._up:
            up = up | context & bit
        return up | _seen(self._ahead, bits)


def _is_joined(word, met, inner):
    """Return whether a test that joins these inner ones is fulfilled if some of them are met."""
    if word == "both":
        return met == inner
    return met > 0 if word == "one" else met == 0


def _bits_of(tests, parts):
    """Return the bits of some of the tests."""
    bits = 0
    for part in parts:
        bits = bits | 1 << tests.index(part)
    return bits


def _seen(rows, bits):
    """Return the bits of those tests that are fulfilled because the element that they ask for fulfils these."""
    found = 0
    for bit, wanted in rows:
        if bits & wanted:
            found = found | bit
    return found


def _is_label_of(label, test):
    """Return whether an element with this label fulfils a test that asks for the element by itself."""
    if test[0] == "name":
        return label[0] == test[1]
    if test[0] == "mark":
        return test[1] in dict(label[1])
    if test[0] == "value":
        return test[1:] in label[1]
    if test[0] == "text":
        return test[1] in label[2]
    return True
