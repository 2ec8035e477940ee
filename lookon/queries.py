"""Queries: their tests, and what these mention."""

from lookon.names import is_name, is_plain

MOST_DEEP = 6

# What stands behind the word of a test: n a name, s a plain text, t a test, p a tuple of tests.
ARGUMENTS = {
    "any": "", "name": "n", "mark": "n", "value": "ns", "text": "s", "first": "", "last": "", "empty": "",
    "not": "t", "both": "p", "one": "p", "under": "t", "in": "t", "next": "t", "behind": "t", "over": "t", "has": "t",
}

# The words of the tests that hang on what is below an element or stands behind it.
FORWARD = ("last", "empty", "over", "has")


def is_test(value):
    """Return whether any value is a test."""
    return _is_test(value, MOST_DEEP)


def _is_test(value, depth):
    """Return whether any value is a test that is at most so deep."""
    # The word is asked for as a text first: what cannot be hashed is no key of a dict.
    if depth == 0 or not isinstance(value, tuple) or not value or not isinstance(value[0], str):
        return False
    signs = ARGUMENTS.get(value[0])
    if signs is None or len(value) != 1 + len(signs):
        return False
    return all([_is_argument(part, sign, depth) for part, sign in zip(value[1:], signs)])


def _is_argument(value, sign, depth):
    """Return whether any value may stand for this sign in a test that is at most so deep."""
    if sign == "n":
        return is_name(value)
    if sign == "s":
        return is_plain(value)
    if sign == "t":
        return _is_test(value, depth - 1)
    if not isinstance(value, tuple) or not 2 <= len(value) <= 4:
        return False
    return all([_is_test(part, depth - 1) for part in value])


def tests_in(test):
    """Return the tuple of the tests that stand in a test, but in none of these."""
    signs = ARGUMENTS[test[0]]
    if signs == "p":
        return test[1]
    return (test[1],) if signs == "t" else ()


def subtests(test):
    """Return the list of a test and all tests in it, each once, each behind the tests in it."""
    found = []
    _collect(test, found)
    return found


def _collect(test, found):
    """Put a test and all tests in it into a list, where they are not there yet."""
    for part in tests_in(test):
        _collect(part, found)
    # A list, not a dict: tests as keys would be tuples that are nested too deep.
    if test not in found:
        found.append(test)


def has_word(test, word):
    """Return whether a test with this word stands in a test."""
    return any([part[0] == word for part in subtests(test)])


def looks_back(test):
    """Return whether a test hangs on the element, what is above it and what stands before these alone."""
    return not any([has_word(test, word) for word in FORWARD])


def names_of(test):
    """Return the ascending list of the names of elements that a test mentions."""
    return sorted({part[1] for part in subtests(test) if part[0] == "name"})


def marks_of(test):
    """Return the ascending list of the names of marks that a test mentions."""
    return sorted({part[1] for part in subtests(test) if part[0] in ("mark", "value")})


def texts_of(test):
    """Return the ascending list of the texts that a test mentions."""
    return sorted({part[1] for part in subtests(test) if part[0] == "text"})


def values_of(test, mark):
    """Return the ascending list of the values that a test mentions for a mark."""
    return sorted({part[2] for part in subtests(test) if part[:2] == ("value", mark)})
