"""What several tests need: a view with records that fit it or not, tests of queries, and all of these by chance."""

from lookon.documents import Document
from lookon.errors import RefusedError
from lookon.shapes import children_of, parts_of

SCOPES = ("own", "list", "all")

SIX = ("t", 6, "six")
FIVE = ("e", 5, "item", (("m", "v"),), (SIX,))
FOUR = ("e", 4, "item", (), ())
THREE = ("t", 3, "three")
TWO = ("e", 2, "list", (("b", "2"),), (THREE, FOUR, FIVE))
ONE = ("t", 1, "one")
SEVEN = ("e", 7, "last", (), ())
WHOLE = ("e", 0, "top", (("a", "1"), ("c", "3")), (ONE, TWO, SEVEN))

# A shape that is not in the view.
NEW = ("e", 20, "new", (("x", ""),), (("t", 21, "deep"), ("e", 22, "inner", (), ())))

# Records that fit the view WHOLE, each with the view behind it.
FITTING = (
    (("put", 0, NEW, None), ("e", 0, "top", WHOLE[3], (ONE, TWO, SEVEN, NEW))),
    (("put", 0, NEW, 1), ("e", 0, "top", WHOLE[3], (NEW, ONE, TWO, SEVEN))),
    (("put", 0, NEW, 2), ("e", 0, "top", WHOLE[3], (ONE, NEW, TWO, SEVEN))),
    (("put", 0, NEW, 7), ("e", 0, "top", WHOLE[3], (ONE, TWO, NEW, SEVEN))),
    (("put", 7, ("t", 8, ""), None),
     ("e", 0, "top", WHOLE[3], (ONE, TWO, ("e", 7, "last", (), (("t", 8, ""),))))),
    (("put", 2, ("t", 60, "x" * 20), 5),
     ("e", 0, "top", WHOLE[3], (ONE, ("e", 2, "list", TWO[3], (THREE, FOUR, ("t", 60, "x" * 20), FIVE)), SEVEN))),
    (("put", 5, NEW, 6), ("e", 0, "top", WHOLE[3], (
        ONE, ("e", 2, "list", TWO[3], (THREE, FOUR, ("e", 5, "item", FIVE[3], (NEW, SIX)))), SEVEN))),
    (("out", 0, 1), ("e", 0, "top", WHOLE[3], (TWO, SEVEN))),
    (("out", 0, 2), ("e", 0, "top", WHOLE[3], (ONE, SEVEN))),
    (("out", 0, 7), ("e", 0, "top", WHOLE[3], (ONE, TWO))),
    (("out", 2, 4), ("e", 0, "top", WHOLE[3], (ONE, ("e", 2, "list", TWO[3], (THREE, FIVE)), SEVEN))),
    (("out", 5, 6), ("e", 0, "top", WHOLE[3], (
        ONE, ("e", 2, "list", TWO[3], (THREE, FOUR, ("e", 5, "item", FIVE[3], ()))), SEVEN))),
    (("mark", 0, "b", "2"), ("e", 0, "top", (("a", "1"), ("b", "2"), ("c", "3")), WHOLE[4])),
    (("mark", 0, "a", ""), ("e", 0, "top", (("a", ""), ("c", "3")), WHOLE[4])),
    (("mark", 0, "a", "1"), WHOLE),
    (("mark", 0, "a", None), ("e", 0, "top", (("c", "3"),), WHOLE[4])),
    (("mark", 0, "b", None), WHOLE),
    (("mark", 7, "abcdefgh", "x" * 20),
     ("e", 0, "top", WHOLE[3], (ONE, TWO, ("e", 7, "last", (("abcdefgh", "x" * 20),), ())))),
    (("mark", 5, "m", None), ("e", 0, "top", WHOLE[3], (
        ONE, ("e", 2, "list", TWO[3], (THREE, FOUR, ("e", 5, "item", (), (SIX,)))), SEVEN))),
    (("text", 1, "new"), ("e", 0, "top", WHOLE[3], (("t", 1, "new"), TWO, SEVEN))),
    (("text", 1, "one"), WHOLE),
    (("text", 6, ""), ("e", 0, "top", WHOLE[3], (
        ONE, ("e", 2, "list", TWO[3], (THREE, FOUR, ("e", 5, "item", FIVE[3], (("t", 6, ""),)))), SEVEN))),
)

# What does not fit the view WHOLE, by the reason.
MISFITS = {
    "a target that is not in the view": (
        ("put", 8, NEW, None), ("out", 8, 1), ("mark", 8, "a", "1"), ("text", 8, ""), ("put", 20, NEW, None)),
    "a target that is no number": tuple(
        record for value in (True, False, None, -1, "0", 0.0, 1.0, (0,), [0], {0})
        for record in (("put", value, NEW, None), ("out", value, 1), ("mark", value, "a", "1"), ("text", value, ""))),
    "a put into a text": (("put", 1, NEW, None), ("put", 6, NEW, None), ("put", 1, NEW, 1)),
    "a child that is no shape": tuple(("put", 0, value, None) for value in (
        None, 20, "t", (), True, [], list(NEW), ("t", 20), ("t", 20, "~\n"), ("t", True, ""), ("t", -1, ""),
        ("e", 20, "NEW", (), ()), ("e", 20, "new", [], ()), ("e", 20, "new", (), []), ("e", 20, "new", {}, ()),
        ("e", 20, "new", (), (("t", 20, ""),)), ("e", 20, "new", (("b", ""), ("a", "")), ()))),
    "a child with a number that is in the view": (
        ("put", 0, ("t", 0, ""), None), ("put", 0, ("t", 1, "one"), None), ("put", 7, SEVEN, None),
        ("put", 7, SIX, None), ("put", 0, ("e", 20, "new", (), (("t", 6, ""),)), None),
        ("put", 0, ("e", 20, "new", (), (("t", 21, ""), ("e", 22, "new", (), (("t", 0, ""),)))), None)),
    "a place that is not ahead of a child": tuple(
        ("put", 0, NEW, value) for value in (0, 3, 6, 8, 20, 21, True, False, -1, "1", 1.0, 2.0, (1,), [1], {1})),
    "an out of what is no child": tuple(
        ("out", 0, value) for value in (0, 3, 6, 8, True, False, None, -1, "1", 1.0, (1,), [1], {1}, ONE)) + (
        ("out", 2, 2), ("out", 2, 0), ("out", 2, 1), ("out", 2, 6), ("out", 1, 1), ("out", 1, 0), ("out", 7, 7)),
    "a mark of a text": (("mark", 1, "a", "1"), ("mark", 1, "a", None), ("mark", 6, "a", "")),
    "a name that is none": tuple(("mark", 0, name, value) for value in ("1", None) for name in (
        None, "", "A", "abcdefghi", "a b", "a1", 0, True, ("a",), ["a"], {"a"}, b"a")),
    "a value that is neither None nor a plain text": tuple(("mark", 0, "a", value) for value in (
        0, 1, True, False, (), ("1",), ["1"], {"1"}, "x" * 21, "%", "\n", "\x7f", "\u00e9", b"1")),
    "a text of an element": (("text", 0, ""), ("text", 2, "new"), ("text", 7, "")),
    "a text that is no plain text": tuple(("text", 1, value) for value in (
        None, 0, True, (), ("a",), ["a"], {"a"}, "x" * 21, "%", "\n", "\x7f", "\u00e9", b"a")),
    "a list in place of the tuple": (
        ["put", 0, NEW, None], ["out", 0, 1], ["mark", 0, "a", "1"], ["text", 1, "new"]),
    "another length": (
        ("put",), ("put", 0), ("put", 0, NEW), ("put", 0, NEW, None, None), ("out",), ("out", 0), ("out", 0, 1, None),
        ("mark",), ("mark", 0), ("mark", 0, "a"), ("mark", 0, "a", "1", None), ("text",), ("text", 1),
        ("text", 1, "new", None)),
    "another word in front": (
        ("add", 0, NEW, None), ("in", 0, 1), ("", 0, 1), ("Put", 0, NEW, None), ("OUT", 0, 1), ("marks", 0, "a", "1"),
        ("texts", 1, "new"), (None, 0, 1), (0, 1, "new"), (True, 0, 1), (("out",), 0, 1), (["out"], 0, 1),
        ({"out"}, 0, 1), ({}, 0, "a", "1"), (b"out", 0, 1), ("unmark", 0, "a"), NEW, SIX),
    "no record at all": (None, 0, 1, True, "", "put", "text", b"out", (), [], {}, set(), 0.5, object(), ((),), (None,)),
}

# Rows, each with the place of the first record that does not fit in the view behind those ahead of it.
LATE = (
    (0, (("mark", 20, "x", "1"), ("put", 0, NEW, None))),
    (0, (None, None)),
    (1, (("put", 0, NEW, None), ("put", 0, NEW, None))),
    (1, (("put", 0, NEW, None), ("put", 7, ("t", 21, ""), None), None)),
    (1, (("put", 0, NEW, None), ("put", 0, ("t", 30, ""), 21))),
    (1, (("out", 0, 1), ("out", 0, 1))),
    (1, (("out", 0, 1), ("put", 0, NEW, 1))),
    (1, (("out", 0, 1), ("text", 1, "new"))),
    (1, (("out", 0, 2), ("mark", 2, "b", None))),
    (1, (("out", 0, 2), ("text", 6, ""))),
    (1, (("out", 0, 2), ("put", 5, NEW, None))),
    (2, (("put", 0, NEW, None), ("out", 20, 22), ("mark", 22, "a", "1"), ("mark", 20, "a", "1"))),
    (2, (("out", 2, 5), ("put", 7, FIVE, None), ("out", 2, 5))),
    (3, (("mark", 0, "a", "2"), ("text", 1, ""), ("out", 0, 7), ["out", 0, 1], ("out", 0, 7))),
)


def misfits():
    """All that does not fit the view WHOLE, each with its reason."""
    return [(reason, record) for reason, records in MISFITS.items() for record in records]


def chance_document(chance, many):
    """A document with many nodes, all but its top without a parent."""
    document = Document()
    while document.nodes() < many:
        document.text("") if chance.random() < 0.4 else document.element("a")
    return document


def edit(chance, document):
    """Edit a document by chance."""
    number, other = chance.randrange(document.nodes()), chance.randrange(document.nodes())
    name, text = chance.choice("abc"), chance.choice(("", "1", "2"))
    edits = (("insert", number, other, chance.choice(document.children(number) + [None])), ("remove", number),
             ("mark", number, name, text), ("unmark", number, name), ("write", number, text))
    method, *arguments = edits[chance.choice((0, 0, 0, 1, 2, 2, 3, 4, 4))]
    try:
        getattr(document, method)(*arguments)
    except RefusedError:
        pass


LEAVES = (("any",), ("name", "a"), ("name", "b"), ("mark", "m"), ("mark", "n"), ("value", "m", "1"), ("value", "n", "2"),
          ("text", "s"), ("text", ""), ("first",))
FORWARD_LEAVES = (("last",), ("empty",))
JOINS = ("not", "both", "one")
BACK = ("under", "in", "next", "behind")
FORWARD = ("over", "has")


def chance_test(chance, depth, leaves=LEAVES + FORWARD_LEAVES, words=JOINS + BACK + FORWARD):
    """A test that is at most so deep."""
    if depth == 1 or chance.random() < 0.25:
        return chance.choice(leaves)
    word = chance.choice(words)
    many = chance.choice((2, 2, 3, 4)) if word in ("both", "one") else 1
    parts = tuple(chance_test(chance, depth - 1, leaves, words) for _ in range(many))
    return (word, parts) if word in ("both", "one") else (word, parts[0])


def chance_shape(chance, many, first=0):
    """A shape of so many nodes with an element as its root, its numbers from the first one on in any order."""
    numbers = chance.sample(range(first, first + many), many)

    def grown(left, is_root):
        if left == 1 and not is_root and chance.random() < 0.4:
            return ("t", numbers.pop(), chance.choice(("s", "", "other")))
        marks = tuple((name, chance.choice("123")) for name in "mno" if chance.random() < 0.4)
        number, children, left = numbers.pop(), [], left - 1
        while left:
            size = chance.randint(1, left)
            children.append(grown(size, False))
            left -= size
        return ("e", number, chance.choice("abc"), marks, tuple(children))
    return grown(many, True)


def chance_record(chance, whole):
    """A record that fits a view."""
    target = chance.choice(parts_of(whole))
    if target[0] == "t":
        return ("text", target[1], chance.choice(("s", "", "other", "new")))
    word = chance.choice(("mark", "put", "out") if target[4] else ("mark", "put"))
    if word == "mark":
        return ("mark", target[1], chance.choice("mno"), chance.choice((None, "1", "2", "3")))
    below = [child[1] for child in target[4]]
    if word == "out":
        return ("out", target[1], chance.choice(below))
    free = 1 + max(part[1] for part in parts_of(whole))
    text = ("t", free, chance.choice(("s", "", "other")))
    child = text if chance.random() < 0.5 else chance_shape(chance, chance.randint(1, 3), free)
    return ("put", target[1], child, chance.choice(below + [None]))


def slow_answer(whole, test):
    """The answer, found for each element by itself just as the table of point 12 tells."""
    ways = {whole[1]: (None, [whole])}
    for part in parts_of(whole):
        beside = [child for child in children_of(part) if child[0] == "e"]
        ways.update((child[1], (part, beside)) for child in beside)

    def fulfils(part, test):
        word, (parent, beside) = test[0], ways[part[1]]
        at, inner = beside.index(part), [child for child in part[4] if child[0] == "e"]
        above = [parent] if parent else []
        while above and ways[above[-1][1]][0]:
            above.append(ways[above[-1][1]][0])
        below = [each for each in parts_of(part)[1:] if each[0] == "e"]
        others = {"under": above[:1], "in": above, "next": beside[:at][-1:], "behind": beside[:at], "over": inner,
                  "has": below, "not": [part]}
        if word in others:
            return any(fulfils(other, test[1]) for other in others[word]) != (word == "not")
        return {
            "any": lambda: True, "name": lambda: part[2] == test[1], "mark": lambda: test[1] in dict(part[3]),
            "value": lambda: test[1:] in part[3], "first": lambda: at == 0, "last": lambda: part is beside[-1],
            "text": lambda: any(child[0] == "t" and child[2] == test[1] for child in part[4]),
            "empty": lambda: part[4] == (), "both": lambda: all(fulfils(part, each) for each in test[1]),
            "one": lambda: any(fulfils(part, each) for each in test[1])}[word]()
    return [part[1] for part in parts_of(whole) if part[0] == "e" and fulfils(part, test)]
