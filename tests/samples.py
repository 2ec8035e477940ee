"""What several tests need: a view with records that fit it or not, and chance edits of a document."""

from lookon.documents import Document
from lookon.errors import RefusedError

SCOPES = ("own", "list", "all")

SIX = ("t", 6, "six")
FIVE = ("e", 5, "item", (("m", "v"),), (SIX,))
FOUR = ("e", 4, "item", (), ())
THREE = ("t", 3, "three")
TWO = ("e", 2, "list", (("b", "2"),), (THREE, FOUR, FIVE))
ONE = ("t", 1, "one")
SEVEN = ("e", 7, "last", (), ())
WHOLE = ("e", 0, "top", (("a", "1"), ("c", "3")), (ONE, TWO, SEVEN))

# A shape that is not in the view.
NEW = ("e", 20, "new", (("x", ""),), (("t", 21, "deep"), ("e", 22, "inner", (), ())))

# Records that fit the view WHOLE, each with the view behind it.
FITTING = (
    (("put", 0, NEW, None), ("e", 0, "top", WHOLE[3], (ONE, TWO, SEVEN, NEW))),
    (("put", 0, NEW, 1), ("e", 0, "top", WHOLE[3], (NEW, ONE, TWO, SEVEN))),
    (("put", 0, NEW, 2), ("e", 0, "top", WHOLE[3], (ONE, NEW, TWO, SEVEN))),
    (("put", 0, NEW, 7), ("e", 0, "top", WHOLE[3], (ONE, TWO, NEW, SEVEN))),
    (("put", 7, ("t", 8, ""), None),
     ("e", 0, "top", WHOLE[3], (ONE, TWO, ("e", 7, "last", (), (("t", 8, ""),))))),
    (("put", 2, ("t", 60, "x" * 20), 5),
     ("e", 0, "top", WHOLE[3], (ONE, ("e", 2, "list", TWO[3], (THREE, FOUR, ("t", 60, "x" * 20), FIVE)), SEVEN))),
    (("put", 5, NEW, 6), ("e", 0, "top", WHOLE[3], (
        ONE, ("e", 2, "list", TWO[3], (THREE, FOUR, ("e", 5, "item", FIVE[3], (NEW, SIX)))), SEVEN))),
    (("out", 0, 1), ("e", 0, "top", WHOLE[3], (TWO, SEVEN))),
    (("out", 0, 2), ("e", 0, "top", WHOLE[3], (ONE, SEVEN))),
    (("out", 0, 7), ("e", 0, "top", WHOLE[3], (ONE, TWO))),
    (("out", 2, 4), ("e", 0, "top", WHOLE[3], (ONE, ("e", 2, "list", TWO[3], (THREE, FIVE)), SEVEN))),
    (("out", 5, 6), ("e", 0, "top", WHOLE[3], (
        ONE, ("e", 2, "list", TWO[3], (THREE, FOUR, ("e", 5, "item", FIVE[3], ()))), SEVEN))),
    (("mark", 0, "b", "2"), ("e", 0, "top", (("a", "1"), ("b", "2"), ("c", "3")), WHOLE[4])),
    (("mark", 0, "a", ""), ("e", 0, "top", (("a", ""), ("c", "3")), WHOLE[4])),
    (("mark", 0, "a", "1"), WHOLE),
    (("mark", 0, "a", None), ("e", 0, "top", (("c", "3"),), WHOLE[4])),
    (("mark", 0, "b", None), WHOLE),
    (("mark", 7, "abcdefgh", "x" * 20),
     ("e", 0, "top", WHOLE[3], (ONE, TWO, ("e", 7, "last", (("abcdefgh", "x" * 20),), ())))),
    (("mark", 5, "m", None), ("e", 0, "top", WHOLE[3], (
        ONE, ("e", 2, "list", TWO[3], (THREE, FOUR, ("e", 5, "item", (), (SIX,)))), SEVEN))),
    (("text", 1, "new"), ("e", 0, "top", WHOLE[3], (("t", 1, "new"), TWO, SEVEN))),
    (("text", 1, "one"), WHOLE),
    (("text", 6, ""), ("e", 0, "top", WHOLE[3], (
        ONE, ("e", 2, "list", TWO[3], (THREE, FOUR, ("e", 5, "item", FIVE[3], (("t", 6, ""),)))), SEVEN))),
)

# What does not fit the view WHOLE, by the reason.
MISFITS = {
    "a target that is not in the view": (
        ("put", 8, NEW, None), ("out", 8, 1), ("mark", 8, "a", "1"), ("text", 8, ""), ("put", 20, NEW, None)),
    "a target that is no number": tuple(
        record for value in (True, False, None, -1, "0", 0.0, 1.0, (0,), [0], {0})
        for record in (("put", value, NEW, None), ("out", value, 1), ("mark", value, "a", "1"), ("text", value, ""))),
    "a put into a text": (("put", 1, NEW, None), ("put", 6, NEW, None), ("put", 1, NEW, 1)),
    "a child that is no shape": tuple(("put", 0, value, None) for value in (
        None, 20, "t", (), True, [], list(NEW), ("t", 20), ("t", 20, "~\n"), ("t", True, ""), ("t", -1, ""),
        ("e", 20, "NEW", (), ()), ("e", 20, "new", [], ()), ("e", 20, "new", (), []), ("e", 20, "new", {}, ()),
        ("e", 20, "new", (), (("t", 20, ""),)), ("e", 20, "new", (("b", ""), ("a", "")), ()))),
    "a child with a number that is in the view": (
        ("put", 0, ("t", 0, ""), None), ("put", 0, ("t", 1, "one"), None), ("put", 7, SEVEN, None),
        ("put", 7, SIX, None), ("put", 0, ("e", 20, "new", (), (("t", 6, ""),)), None),
        ("put", 0, ("e", 20, "new", (), (("t", 21, ""), ("e", 22, "new", (), (("t", 0, ""),)))), None)),
    "a place that is not ahead of a child": tuple(
        ("put", 0, NEW, value) for value in (0, 3, 6, 8, 20, 21, True, False, -1, "1", 1.0, 2.0, (1,), [1], {1})),
    "an out of what is no child": tuple(
        ("out", 0, value) for value in (0, 3, 6, 8, True, False, None, -1, "1", 1.0, (1,), [1], {1}, ONE)) + (
        ("out", 2, 2), ("out", 2, 0), ("out", 2, 1), ("out", 2, 6), ("out", 1, 1), ("out", 1, 0), ("out", 7, 7)),
    "a mark of a text": (("mark", 1, "a", "1"), ("mark", 1, "a", None), ("mark", 6, "a", "")),
    "a name that is none": tuple(("mark", 0, name, value) for value in ("1", None) for name in (
        None, "", "A", "abcdefghi", "a b", "a1", 0, True, ("a",), ["a"], {"a"}, b"a")),
    "a value that is neither None nor a plain text": tuple(("mark", 0, "a", value) for value in (
        0, 1, True, False, (), ("1",), ["1"], {"1"}, "x" * 21, "%", "\n", "\x7f", "\u00e9", b"1")),
    "a text of an element": (("text", 0, ""), ("text", 2, "new"), ("text", 7, "")),
    "a text that is no plain text": tuple(("text", 1, value) for value in (
        None, 0, True, (), ("a",), ["a"], {"a"}, "x" * 21, "%", "\n", "\x7f", "\u00e9", b"a")),
    "a list in place of the tuple": (
        ["put", 0, NEW, None], ["out", 0, 1], ["mark", 0, "a", "1"], ["text", 1, "new"]),
    "another length": (
        ("put",), ("put", 0), ("put", 0, NEW), ("put", 0, NEW, None, None), ("out",), ("out", 0), ("out", 0, 1, None),
        ("mark",), ("mark", 0), ("mark", 0, "a"), ("mark", 0, "a", "1", None), ("text",), ("text", 1),
        ("text", 1, "new", None)),
    "another word in front": (
        ("add", 0, NEW, None), ("in", 0, 1), ("", 0, 1), ("Put", 0, NEW, None), ("OUT", 0, 1), ("marks", 0, "a", "1"),
        ("texts", 1, "new"), (None, 0, 1), (0, 1, "new"), (True, 0, 1), (("out",), 0, 1), (["out"], 0, 1),
        ({"out"}, 0, 1), ({}, 0, "a", "1"), (b"out", 0, 1), ("unmark", 0, "a"), NEW, SIX),
    "no record at all": (None, 0, 1, True, "", "put", "text", b"out", (), [], {}, set(), 0.5, object(), ((),), (None,)),
}

# Rows, each with the place of the first record that does not fit in the view behind those ahead of it.
LATE = (
    (0, (("mark", 20, "x", "1"), ("put", 0, NEW, None))),
    (0, (None, None)),
    (1, (("put", 0, NEW, None), ("put", 0, NEW, None))),
    (1, (("put", 0, NEW, None), ("put", 7, ("t", 21, ""), None), None)),
    (1, (("put", 0, NEW, None), ("put", 0, ("t", 30, ""), 21))),
    (1, (("out", 0, 1), ("out", 0, 1))),
    (1, (("out", 0, 1), ("put", 0, NEW, 1))),
    (1, (("out", 0, 1), ("text", 1, "new"))),
    (1, (("out", 0, 2), ("mark", 2, "b", None))),
    (1, (("out", 0, 2), ("text", 6, ""))),
    (1, (("out", 0, 2), ("put", 5, NEW, None))),
    (2, (("put", 0, NEW, None), ("out", 20, 22), ("mark", 22, "a", "1"), ("mark", 20, "a", "1"))),
    (2, (("out", 2, 5), ("put", 7, FIVE, None), ("out", 2, 5))),
    (3, (("mark", 0, "a", "2"), ("text", 1, ""), ("out", 0, 7), ["out", 0, 1], ("out", 0, 7))),
)


def misfits():
    """All that does not fit the view WHOLE, each with its reason."""
    return [(reason, record) for reason, records in MISFITS.items() for record in records]


def chance_document(chance, many):
    """A document with many nodes, all but its top without a parent."""
    document = Document()
    while document.nodes() < many:
        document.text("") if chance.random() < 0.4 else document.element("a")
    return document


def edit(chance, document):
    """Edit a document by chance."""
    number, other = chance.randrange(document.nodes()), chance.randrange(document.nodes())
    name, text = chance.choice("abc"), chance.choice(("", "1", "2"))
    edits = (("insert", number, other, chance.choice(document.children(number) + [None])), ("remove", number),
             ("mark", number, name, text), ("unmark", number, name), ("write", number, text))
    method, *arguments = edits[chance.choice((0, 0, 0, 1, 2, 2, 3, 4, 4))]
    try:
        getattr(document, method)(*arguments)
    except RefusedError:
        pass
