"""Rebuilding: which records fit a view, and the view behind them."""

from lookon.errors import BadRecord
from lookon.names import is_name, is_number, is_plain
from lookon.shapes import children_of, find, is_shape, numbers_of, replaced, with_child, with_mark, without_child

# The words that records begin with, and how many items their tuples have.
LENGTHS = {"put": 4, "out": 3, "mark": 4, "text": 3}


def rebuild(whole, records):
    """Return the view behind a list of records."""
    for place, record in enumerate(records):
        whole = behind(whole, record, place)
    return whole


def behind(whole, record, place):
    """Return the view behind the record at this place of its row, which must fit."""
    if not fits(whole, record):
        raise BadRecord(place)
    return replaced(whole, record[1], _changed(find(whole, record[1]), record))


def fits(whole, record):
    """Return whether anything is a record that fits a view."""
    if not _begins_well(record):
        return False
    target = find(whole, record[1])
    if target is None:
        return False
    if record[0] == "text":
        return target[0] == "t" and is_plain(record[2])
    if target[0] == "t":
        return False
    if record[0] == "put":
        return _can_come(whole, record[2]) and (record[3] is None or _is_child(target, record[3]))
    if record[0] == "out":
        return _is_child(target, record[2])
    return is_name(record[2]) and (record[3] is None or is_plain(record[3]))


def _begins_well(value):
    """Return whether anything has the word, the length and the kind of target that a record has."""
    # The word is asked for as a text first: what cannot be hashed is no key of a dict.
    if not isinstance(value, tuple) or not value or not isinstance(value[0], str):
        return False
    return len(value) == LENGTHS.get(value[0]) and is_number(value[1])


def _is_child(shape, value):
    """Return whether anything is the number of a child of a shape."""
    return is_number(value) and value in [child[1] for child in children_of(shape)]


def _can_come(whole, value):
    """Return whether anything is a shape without a number that is in a view."""
    if not is_shape(value):
        return False
    there = numbers_of(whole)
    return not any([number in there for number in numbers_of(value)])


def _changed(target, record):
    """Return the target of a record that fits as it is behind the record."""
    if record[0] == "put":
        return with_child(target, record[2], record[3])
    if record[0] == "out":
        return without_child(target, record[2])
    if record[0] == "mark":
        return with_mark(target, record[2], record[3])
    return ("t", target[1], record[2])


class Mirror:
    """A view that is kept up to date by records alone."""

    def __init__(self, first):
        self._whole = first

    def apply(self, records):
        """Take a row of records: all of them, or none if one does not fit."""
        self._whole = rebuild(self._whole, records)

    def view(self):
        """Return the view behind all records that were taken."""
        return self._whole
