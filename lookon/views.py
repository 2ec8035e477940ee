"""Options, and the views of shapes by them."""

from lookon.errors import InvalidArgument
from lookon.names import are_ascending, is_name
from lookon.shapes import children_of, parts_of

EVERYTHING = ("all", None, True)

# From the narrowest scope to the widest one.
SCOPES = ("own", "list", "all")


def are_options(value):
    """Return whether anything is options."""
    if not isinstance(value, tuple) or len(value) != 3:
        return False
    scope, marks, texts = value
    return scope in SCOPES and (marks is None or _are_names(marks)) and isinstance(texts, bool)


def _are_names(value):
    """Return whether anything is a tuple of names in strictly ascending order."""
    return isinstance(value, tuple) and all([is_name(name) for name in value]) and are_ascending(value)


def check_options(options):
    """Raise InvalidArgument unless these are options."""
    if not are_options(options):
        raise InvalidArgument("options")


def view(shape, options):
    """Return the view of a shape by options."""
    scope = options[0]
    if scope == "own":
        return _seen(shape, options, [])
    if scope == "list":
        return _seen(shape, options, [bare(child) for child in children_of(shape)])
    seen = {}
    # Backwards each node comes behind its children, so their views are there.
    for part in reversed(parts_of(shape)):
        children = [seen[child[1]] for child in children_of(part)]
        seen[part[1]] = _seen(part, options, children)
    return seen[shape[1]]


def _seen(shape, options, children):
    """Return the view of a node alone by options, with these children."""
    if shape[0] == "t":
        return ("t", shape[1], shape[2] if options[2] else "")
    marks = [pair for pair in shape[3] if wants_mark(options, pair[0])]
    return ("e", shape[1], shape[2], tuple(marks), tuple(children))


def bare(shape):
    """Return the bare shape: without marks and children, or with the empty text."""
    if shape[0] == "t":
        return ("t", shape[1], "")
    return ("e", shape[1], shape[2], (), ())


def is_wider(options, other):
    """Return whether options are at least as wide as other ones."""
    if SCOPES.index(options[0]) < SCOPES.index(other[0]):
        return False
    if other[2] and not options[2]:
        return False
    if other[1] is None:
        return options[1] is None
    return all([wants_mark(options, name) for name in other[1]])


def wants_mark(options, name):
    """Return whether options want the marks with a name."""
    return options[1] is None or name in options[1]
