"""Reversing: how records are taken back."""

from lookon.rebuilding import behind
from lookon.shapes import find, following, mark_of


def undone(first, records):
    """Return the list of the records that lead back to the view ahead of records."""
    back = []
    whole = first
    for place, record in enumerate(records):
        after = behind(whole, record, place)
        back.append(_opposite(find(whole, record[1]), record))
        whole = after
    return back[::-1]


def _opposite(target, record):
    """Return the record that takes a record back, whose target was this ahead of it."""
    if record[0] == "put":
        return ("out", target[1], record[2][1])
    if record[0] == "out":
        return ("put", target[1], find(target, record[2]), following(target, record[2]))
    if record[0] == "mark":
        return ("mark", target[1], record[2], mark_of(target, record[2]))
    return ("text", target[1], target[2])
