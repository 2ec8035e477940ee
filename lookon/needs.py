"""Needs: what of a view a test hangs on."""

from lookon.queries import has_word, marks_of, texts_of
from lookon.shapes import find


def options_of(test):
    """Return the options of the narrowest view in which a test has the answer that it has in the whole shape."""
    return ("all", tuple(marks_of(test)), bool(texts_of(test)))


def may_touch(test, view, record):
    """Return whether a record that fits a view may touch a test."""
    if record[0] == "mark":
        return record[2] in marks_of(test)
    if record[0] == "text":
        return bool(texts_of(test))
    child = record[2] if record[0] == "put" else find(view, record[2])
    return child[0] == "e" or bool(texts_of(test)) or has_word(test, "empty")
