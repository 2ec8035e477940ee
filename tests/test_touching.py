import random
import time
import unittest
from functools import lru_cache
from itertools import product

from lookon.errors import InvalidArgument, RefusedError
from lookon.matching import answer
from lookon.queries import is_test, marks_of, names_of, subtests, texts_of, values_of
from lookon.rebuilding import fits, rebuild
from lookon.shapes import children_of, is_shape, mark_of, numbers_of, parts_of
from lookon.touching import touching
from samples import BACK, JOINS, LEAVES, chance_test, slow_answer

ANY, A, M, V, S, FIRST = ("any",), ("name", "a"), ("mark", "m"), ("value", "m", "1"), ("text", "s"), ("first",)
MARK, TEXT, PUT, OUT = ("mark", "m"), ("text",), ("put",), ("out",)
KINDS = (MARK, TEXT, PUT, OUT)
NEVER = ("both", (M, ("not", M)))
NOT_ROOT = ("under", ANY)
ROOT = ("not", NOT_ROOT)


def other_than(texts):
    return [*texts, next(text for text in ("other", "another") if text not in texts)]


def labels(test):
    """All names and marks of elements, and all texts, that a test can tell apart."""
    cases = [[None, *other_than(values_of(test, mark))] for mark in marks_of(test)]
    marks = [tuple((mark, value) for mark, value in zip(marks_of(test), row) if value is not None) for row in product(*cases)]
    return list(product(other_than(names_of(test)), marks)), other_than(texts_of(test)) if texts_of(test) else []


def views(test, many):
    """All views of so many nodes that a test can tell apart."""
    named, texts = labels(test)

    @lru_cache(None)
    def trees(left):
        return [("e", *label, row) for row in rows(left - 1) for label in named]

    @lru_cache(None)
    def rows(left):
        heads = [(size, tree) for size in range(1, left + 1)
                 for tree in trees(size) + ([("t", text) for text in texts] if size == 1 else [])]
        return [(head, *row) for size, head in heads for row in rows(left - size)] if left else [()]

    def numbered(tree, free):
        number = free.pop()
        if tree[0] == "t":
            return ("t", number, tree[1])
        return ("e", number, *tree[1:3], tuple(numbered(child, free) for child in tree[3]))
    return [numbered(tree, list(reversed(range(many)))) for tree in trees(many)]


def records(test, whole, kind):
    """All records of a kind that a test can tell apart and that fit a view; for a put, those that take it back."""
    for part in parts_of(whole):
        if kind[0] == "mark" and part[0] == "e":
            for value in [None, *other_than(values_of(test, kind[1]))]:
                if value != mark_of(part, kind[1]):
                    yield ("mark", part[1], kind[1], value)
        elif kind[0] == "text" and part[0] == "t":
            for text in other_than(texts_of(test)):
                yield ("text", part[1], text)
        elif kind[0] in ("put", "out"):
            for child in children_of(part):
                yield ("out", part[1], child[1])


def fewest(test, kind, limit):
    """The fewest nodes by which a kind shows that it touches a test, if there are at most so many, or None."""
    for many in range(1, limit + 1):
        for whole in views(test, many):
            found = answer(whole, test)
            if any(answer(rebuild(whole, [record]), test) != found for record in records(test, whole, kind)):
                return many
    return None


def limit_of(test):
    """Up to how many nodes the views of a test can be gone through."""
    named, texts = labels(test)
    many = len(named) + len(texts)
    return max(limit for limit, shapes in enumerate((1, 1, 2, 5, 14), 1) if shapes * many ** limit < 1500 or limit == 1)


class TouchingCase(unittest.TestCase):
    def shown(self, test, kind):
        """How many nodes show that a kind touches a test, or None; and that what is returned shows it."""
        told = touching(test, kind)
        if told is None:
            return None
        self.assertIsInstance(told, tuple)
        whole, record = told
        self.assertTrue(is_shape(whole) and whole[0] == "e", (test, kind, told))
        self.assertTrue(fits(whole, record), (test, kind, told))
        self.assertEqual(record[:1] + record[2:3] if kind[0] == "mark" else record[:1], kind)
        after = rebuild(whole, [record])
        self.assertNotEqual(slow_answer(whole, test), slow_answer(after, test), (test, kind, told))
        self.assertNotEqual(answer(whole, test), answer(after, test))
        return len(numbers_of(whole)) + (len(numbers_of(record[2])) if kind == PUT else 0)

    def check(self, test, *expected):
        """The numbers of nodes for the kinds mark, text, put and out."""
        self.assertTrue(is_test(test), test)
        self.assertEqual(tuple(self.shown(test, kind) for kind in KINDS), expected, test)
        limit = limit_of(test)
        for kind, many in zip(KINDS, expected):
            self.assertEqual(fewest(test, kind, limit), many if many is not None and many <= limit else None, (test, kind))

    def refused(self, error, attribute, value, test, kind):
        with self.assertRaises(error, msg=(test, kind)) as caught:
            touching(test, kind)
        self.assertIs(type(caught.exception), error)
        self.assertEqual(getattr(caught.exception, attribute), value, (test, kind))


class TouchingTest(TouchingCase):
    def test_the_examples(self):
        self.assertIsNone(touching(A, MARK))
        self.assertIsNone(touching(("both", (FIRST, ("next", ANY))), PUT))
        whole, record = touching(("next", M), MARK)
        self.assertEqual(self.shown(("next", M), MARK), 3)
        self.assertEqual(len(whole[4]), 2)
        self.assertEqual({child[0] for child in whole[4]}, {"e"})
        self.assertEqual(record[:3], ("mark", whole[4][0][1], "m"))
        self.assertEqual(record[3] is None, mark_of(whole[4][0], "m") is not None)

    def test_each_alone(self):
        self.check(ANY, None, None, 2, 2)
        self.check(A, None, None, 2, 2)
        self.check(M, 1, None, 2, 2)
        self.check(V, 1, None, 2, 2)
        self.check(S, None, 2, 2, 2)
        self.check(("text", ""), None, 2, 2, 2)
        self.check(FIRST, None, None, 2, 2)

    def test_not(self):
        self.check(("not", ANY), None, None, None, None)
        self.check(("not", FIRST), None, None, 3, 3)
        self.check(("not", M), 1, None, 2, 2)
        self.check(("not", S), None, 2, 2, 2)
        self.check(("not", ("not", V)), 1, None, 2, 2)

    def test_both_and_one(self):
        self.check(("both", (A, M)), 1, None, 2, 2)
        self.check(("both", (M, S)), 2, 2, 2, 2)
        self.check(("both", (S, ("text", "t"))), None, 3, 3, 3)
        self.check(("both", (S, ("not", ("text", "t")))), None, 2, 2, 2)
        self.check(("one", (S, ("text", "t"))), None, 2, 2, 2)
        self.check(("one", (M, ("not", V))), None, None, 2, 2)
        self.check(("both", (M, ("not", V))), 1, None, 2, 2)
        self.check(("both", (V, ("value", "m", "2"))), None, None, None, None)
        self.check(("one", (V, ("value", "m", "2"))), 1, None, 2, 2)
        self.check(NEVER, None, None, None, None)
        self.check(("one", (M, ("not", M))), None, None, 2, 2)
        self.check(("both", (M, M)), 1, None, 2, 2)

    def test_under_and_in(self):
        self.check(("under", A), None, None, 2, 2)
        self.check(("under", M), 2, None, 2, 2)
        self.check(("in", M), 2, None, 2, 2)
        self.check(("under", S), None, 3, 3, 3)
        self.check(("under", ("under", M)), 3, None, 3, 3)
        self.check(("in", ("in", ("in", V))), 4, None, 4, 4)
        self.check(("both", (("under", M), ("not", ("in", ("under", M))))), 2, None, 2, 2)
        self.check(("both", (("in", M), ("not", ("under", M)))), 3, None, 3, 3)
        self.check(("under", FIRST), None, None, 2, 2)
        self.check(("under", ("not", FIRST)), None, None, 4, 4)

    def test_next_and_behind(self):
        self.check(("next", A), None, None, 3, 3)
        self.check(("behind", M), 3, None, 3, 3)
        self.check(("next", S), None, 4, 4, 4)
        self.check(("next", ("next", M)), 4, None, 4, 4)
        self.check(("next", ("next", ("next", M))), 5, None, 5, 5)
        self.check(("both", (("behind", M), ("not", ("next", M)))), 4, None, 4, 4)
        self.check(("next", ("under", M)), 3, None, 3, 3)
        self.check(("under", ("next", M)), 4, None, 4, 4)
        self.check(("behind", ("both", (M, FIRST))), 3, None, 3, 3)
        self.check(("behind", ("both", (M, ("not", FIRST)))), 4, None, 4, 4)
        self.check(("both", (FIRST, ("behind", ANY))), None, None, None, None)

    def test_the_root_alone(self):
        # Only what the root is itself can change the answer: a put or an out of one of its texts.
        self.check(ROOT, None, None, None, None)
        self.check(("both", (ROOT, M)), 1, None, None, None)
        self.check(("both", (ROOT, S)), None, 2, 2, 2)
        self.check(("both", (ROOT, S, ("text", "t"))), None, 3, 3, 3)
        self.check(("both", (ROOT, A, ("not", S))), None, 2, 2, 2)
        self.check(("both", (ROOT, M, ("one", (S, V)))), 1, 2, 2, 2)
        self.check(("one", (ROOT, NEVER)), None, None, None, None)

    def test_the_root_or_a_deeper_one(self):
        # The root's text shows it with fewer nodes than an element below it.
        deep = ("under", ("under", ("under", ANY)))
        self.check(("one", (deep, ("both", (ROOT, S)))), None, 2, 2, 2)
        # And here it is the other way round.
        many = ("both", (ROOT, S, ("text", "t"), ("text", "u")))
        self.check(("one", (("both", (FIRST, NOT_ROOT)), many)), None, 4, 2, 2)
        self.check(("one", (("under", ("under", ANY)), many)), None, 4, 3, 3)

    def test_not_the_root(self):
        self.check(("both", (NOT_ROOT, M)), 2, None, 2, 2)
        self.check(("both", (NOT_ROOT, S)), None, 3, 3, 3)
        self.check(("both", (("not", FIRST), V)), 3, None, 3, 3)

    def test_nodes_count_and_not_elements_alone(self):
        # The root with four texts has more nodes than three elements with one text.
        texts = ("both", (S, ("text", "t"), ("text", "u"), ("text", "v")))
        self.check(("one", (texts, ("next", S))), None, 4, 4, 4)
        self.check(("one", (texts, ("under", ("under", ("under", S))))), None, 5, 5, 5)
        self.check(("one", (texts, ("under", ("under", ("under", ("under", S)))))), None, 5, 5, 5)
        self.check(("one", (("both", (M, texts)), ("next", ("next", M)))), 4, 5, 4, 4)

    def test_what_changes_does_not_show_always(self):
        # The mark shows only where the text is, and is made up for by another mark.
        self.check(("both", (S, ("one", (M, ("in", M))))), 2, 2, 2, 2)
        self.check(("both", (("in", M), ("not", ("behind", M)), ("behind", A))), 3, None, 3, 3)
        self.check(("one", (("both", (M, ("next", M))), ("both", (("not", M), ("next", ("not", M)))))), 3, None, 3, 3)
        self.check(("both", (("in", M), ("in", ("not", M)))), 3, None, 3, 3)
        self.check(("one", (M, ("in", M), ("in", ("not", M)))), 1, None, 2, 2)
        self.check(("both", (("next", ("both", (S, M))), ("under", ("not", S)))), 4, 4, 4, 4)

    def test_marks_that_are_not_mentioned(self):
        for test in (M, V, ("next", M), ("both", (A, S))):
            self.assertIsNone(touching(test, ("mark", "mm")))
            self.assertIsNone(touching(test, ("mark", "a")))
            self.assertIsNone(touching(test, ("mark", "s")))

    def test_each_of_several_marks(self):
        test = ("both", (("under", ("value", "n", "2")), M, ("next", ("mark", "abcdefgh"))))
        for mark, many in (("m", 3), ("n", 3), ("abcdefgh", 3), ("k", None)):
            self.assertEqual(self.shown(test, ("mark", mark)), many)

    def test_from_one_value_to_another(self):
        test = ("both", (("mark", "m"), ("not", ("value", "m", "1")), ("not", ("value", "m", "aa"))))
        self.check(test, 1, None, 2, 2)
        # All of the first labels that come to mind are mentioned.
        names = ("one", tuple(("name", name) for name in ("aa", "ab", "a", "b")))
        self.check(("not", names), None, None, 2, 2)
        self.check(("not", ("one", (("text", "aa"), ("text", "")))), None, 2, 2, 2)
        self.check(("one", (("text", "aa"), ("text", "ab"))), None, 2, 2, 2)

    def test_one_text_in_place_of_another(self):
        s, t = ("text", "s"), ("text", "t")
        self.check(("both", (("one", (s, t)), ("not", ("both", (s, t))))), None, 2, 2, 2)
        # A text has to be there ahead, so that only another one in its place shows it.
        self.check(("both", (s, ("not", t), ("under", ("both", (t, ("not", s)))))), None, 4, 4, 4)

    def test_what_is_kept_from_one_sibling_to_the_next(self):
        self.check(("both", (("behind", ("name", "a")), ("behind", ("name", "b")), M)), 4, None, 4, 4)
        self.check(("next", ("in", ("next", M))), 5, None, 5, 5)

    def test_by_chance(self):
        chance = random.Random(20)
        words = JOINS + BACK
        for leaves in ((ANY, M, FIRST), (M, FIRST, ("value", "m", "1")), (S, FIRST, ANY), (S, M), LEAVES, (S, ("text", "t"), M)):
            for _ in range(25):
                test = chance_test(chance, chance.randint(2, 4), leaves, words)
                if len(subtests(test)) > 12 or len(labels(test)[0]) * 2 ** len(texts_of(test)) > 60:
                    continue
                limit = limit_of(test)
                for kind in KINDS:
                    many, least = self.shown(test, kind), fewest(test, kind, limit)
                    self.assertEqual(many if many is not None and many <= limit else None, least, (test, kind))


class KindTest(TouchingCase):
    NO_KINDS = (
        None, True, 0, "", "mark", "text", "put", (), ("mark",), ("mark", "m", "v"), ("text", "s"), ("put", 0), ("out", "a"),
        ("puts",), ("Mark", "m"), ("MARK", "m"), ("name", "a"), ("any",), ["text"], ["mark", "m"], ("mark", ""),
        ("mark", "M"), ("mark", "abcdefghi"), ("mark", None), ("mark", 1), ("mark", ["m"]), ("mark", ("m",)), ("mark", b"m"),
        (("text",),), (["text"],), ({},), (None,), (None, "m"), (["mark"], "m"), {"text"}, {"put": 1}, b"put", ((),), [()])

    def test_what_is_no_kind(self):
        for kind in self.NO_KINDS:
            for test in (ANY, M, ("last",), ("both", tuple(("text", sign * 2) for sign in "abcd"))):
                self.refused(InvalidArgument, "name", "kind", test, kind)

    def test_forward(self):
        for forward in (("last",), ("empty",), ("over", M), ("has", ANY), ("both", (M, ("not", ("empty",)))),
                        ("under", ("next", ("one", (ANY, ("in", ("has", M))))))):
            for kind in KINDS:
                self.refused(RefusedError, "reason", "forward", forward, kind)


def joined(tests):
    """One test, 3 deep at most, with two to sixteen tests in it."""
    rows = [tests[at:at + 4] for at in range(0, len(tests), 4)]
    parts = [("one", tuple(row)) if len(row) > 1 else row[0] for row in rows]
    return ("one", tuple(parts)) if len(parts) > 1 else parts[0]


class WideTest(TouchingCase):
    def wide(self, test):
        self.assertTrue(is_test(test))
        for kind in KINDS:
            self.refused(RefusedError, "reason", "wide", test, kind)

    def not_wide(self, test):
        self.assertTrue(is_test(test))
        for kind in KINDS:
            self.shown(test, kind)

    def test_the_number_of_labels(self):
        names = [("name", name * 3) for name in "abcde"]
        texts = [("text", text) for text in "abcdef"]
        values = [("value", "m", value) for value in "12345"]
        n, o, k, z = ("value", "n", "1"), ("value", "o", "1"), ("mark", "k"), ("mark", "z")
        for many, atoms in (
                (5 * 3 * 2 * 2, names[:4] + [n, k, z]), (6 * 3 * 2 * 2, names[:5] + [n, k, z]),
                (5 * 3 * 4, values[:3] + [n] + texts[:2]), (7 * 3 * 3, values[:5] + [n, o]),
                (7 * 8, values[:5] + texts[:3]), (7 * 4 * 3, values[:5] + texts[:2] + [n]), (6 * 3 * 3, names[:5] + [n, o]),
                (32, texts[:5]), (64, texts[:6]), (16 * 3, texts[:4] + [n]), (32 * 2, texts[:5] + [k]),
                (3 * 3 * 3 * 2, values[:1] + [n, o] + texts[:1]), (3 * 3 * 3 * 3, values[:1] + [n, o] + [("value", "k", "1")])):
            test = joined(atoms)
            self.assertLessEqual(len(subtests(test)), 12)
            self.assertEqual(len(labels(test)[0]) * 2 ** len(texts_of(test)), many)
            if many <= 60:
                self.not_wide(test)
            else:
                self.wide(test)

    def test_what_is_mentioned_twice_counts_once(self):
        # The marks of m have the cases none, 1 and another one, whichever tests mention them.
        texts = [("text", text) for text in "abcd"]
        self.not_wide(joined(texts + [V, M, ("not", V), ("under", M)]))
        self.wide(joined(texts + [V, M, ("value", "m", "2")] + [("name", "a")]))

    def test_the_number_of_tests(self):
        parts = [M, FIRST, ANY, A, ("under", M), ("in", M), ("next", M), ("behind", M)]
        eleven = joined(parts)
        self.assertEqual(len(subtests(eleven)), 11)
        self.not_wide(eleven)
        twelve = joined(parts + [("not", M)])
        self.assertEqual(len(subtests(twelve)), 12)
        self.not_wide(twelve)
        thirteen = joined(parts + [("not", FIRST), ("not", M)])
        self.assertEqual(len(subtests(thirteen)), 14)
        self.wide(thirteen)
        thirteen = ("not", twelve)
        self.assertEqual(len(subtests(thirteen)), 13)
        self.wide(thirteen)
        # However often they stand in it.
        self.not_wide(("one", (eleven, eleven, eleven, eleven)))

    def test_the_order_of_the_errors(self):
        wide = joined([("text", text) for text in "abcdefgh"])
        forward = ("both", (("last",), wide))
        self.refused(InvalidArgument, "name", "kind", forward, ("marks", "m"))
        self.refused(InvalidArgument, "name", "kind", wide, ("mark", "M"))
        for kind in KINDS:
            self.refused(RefusedError, "reason", "forward", forward, kind)
            self.refused(RefusedError, "reason", "wide", wide, kind)

    def test_very_wide(self):
        tests = [("text", str(number)) for number in range(4 ** 5)]
        while len(tests) > 1:
            tests = [("one", tuple(tests[at:at + 4])) for at in range(0, len(tests), 4)]
        self.wide(tests[0])


class TimeTest(TouchingCase):
    def test_within_the_bounds_each_call_ends_soon(self):
        def row(word, test, many):
            for _ in range(many):
                test = (word, test)
            return test
        n = ("value", "m", "1")
        hard = (
            ("both", (row("next", n, 2), row("under", n, 4), row("next", n, 4), row("under", ("next", n), 2))),
            ("both", (("in", row("under", ("next", n), 2)), ("in", ("under", n)), ("behind", row("next", n, 3)),
                      ("in", row("next", n, 2)))),
            ("both", (("next", n), ("in", row("under", n, 3)), row("under", ("next", n), 3), ("behind", row("next", n, 2)))),
            # Nothing can show it, so that all has to be gone through.
            ("both", (row("next", n, 4), ("not", row("next", n, 4)), row("under", n, 4))),
            ("both", tuple((word, ("text", text)) for word, text in zip(BACK, "abcd"))),
            ("both", (("in", ("next", ("text", "u"))), ("in", ("text", "u")), ("behind", ("text", "t")),
                      ("under", ("one", (("text", "v"), ("next", ("text", "u")), ("text", "w")))))))
        start = time.perf_counter()
        for test in hard:
            self.assertLessEqual(len(subtests(test)), 12)
            for kind in KINDS:
                self.shown(test, kind)
        self.assertLess(time.perf_counter() - start, 20)


if __name__ == "__main__":
    unittest.main()
