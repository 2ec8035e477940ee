"""Narrowing: what a narrower observer would have got."""

from lookon.errors import InvalidArgument, RefusedError
from lookon.names import is_number
from lookon.rebuilding import behind
from lookon.shapes import find, way_to
from lookon.views import check_options, is_wider
from lookon.watching import told


def narrowed(first, wide, records, node, options):
    """Return the list of the records that a narrower observer would have got."""
    _check_narrower(wide, options)
    if not _can_watch(first, wide, node):
        raise InvalidArgument("node")
    got = []
    whole = first
    for place, record in enumerate(records):
        after = behind(whole, record, place)
        if find(after, node) is None:
            raise RefusedError("gone")
        got.extend(told((record, way_to(whole, record[1])), node, options))
        whole = after
    return got


def _check_narrower(wide, options):
    """Raise InvalidArgument unless these are options, the first ones at least as wide as the others."""
    check_options(wide)
    check_options(options)
    if not is_wider(wide, options):
        raise InvalidArgument("options")


def _can_watch(first, wide, node):
    """Return whether anything is a node of which the records of an observer with this view tell enough."""
    if not is_number(node) or find(first, node) is None:
        return False
    return wide[0] == "all" or node == first[1]
