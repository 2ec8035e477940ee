import unittest
from itertools import product

from lookon.errors import InvalidArgument
from lookon.views import EVERYTHING, are_options, bare, check_options, is_wider, view, wants_mark

TREE = ("e", 5, "tree", (("a", "1"), ("c", "3")), (
    ("t", 0, "zero"),
    ("e", 4, "inner", (("b", "2"), ("c", "")), (("t", 9, "nine"), ("e", 6, "deep", (("a", ""),), ()))),
    ("e", 1, "last", (("a", "1"),), ())))
GOOD = (("own", None, True), ("list", None, False), ("all", (), True), ("all", ("a",), False),
        ("own", ("a", "b", "zzzzzzzz"), False), EVERYTHING)
BAD = (None, True, 0, "all", (), ("all",), ("all", None), ("all", None, True, None), ["all", None, True],
       ("none", None, True), ("", None, True), ("ALL", None, True), (None, None, True), (2, None, True),
       (["all"], None, True), (("all",), None, True), ("all", True, True), ("all", False, True), ("all", [], True),
       ("all", ["a"], True), ("all", "a", True), ("all", "", True), ("all", {}, True), ("all", 0, True),
       ("all", ("b", "a"), True), ("all", ("a", "a"), True), ("all", ("a", "c", "b"), True), ("all", ("A",), True),
       ("all", ("",), True), ("all", ("abcdefghi",), True), ("all", (None,), True), ("all", (1, 2), True),
       ("all", (("a",),), True), ("all", None, 1), ("all", None, 0), ("all", None, None), ("all", None, "True"),
       ("all", (), ()), object())


class OptionsTest(unittest.TestCase):
    def test_everything(self):
        self.assertEqual(EVERYTHING, ("all", None, True))
        self.assertIs(EVERYTHING[2], True)

    def test_options(self):
        for value in GOOD:
            self.assertIs(are_options(value), True, value)
            self.assertIsNone(check_options(value))

    def test_no_options(self):
        for value in BAD:
            self.assertIs(are_options(value), False, value)
            with self.assertRaises(InvalidArgument) as caught:
                check_options(value)
            self.assertEqual(caught.exception.name, "options")

    def test_wants_mark(self):
        for name in ("a", "b", "zzzzzzzz"):
            self.assertIs(wants_mark(("own", None, False), name), True)
            self.assertIs(wants_mark(("all", (), True), name), False)
        self.assertIs(wants_mark(("all", ("a", "c"), True), "a"), True)
        self.assertIs(wants_mark(("all", ("a", "c"), True), "c"), True)
        self.assertIs(wants_mark(("all", ("a", "c"), True), "b"), False)
        self.assertIs(wants_mark(("all", ("abc",), True), "b"), False)


class ViewTest(unittest.TestCase):
    def test_everything_is_the_shape(self):
        self.assertEqual(view(TREE, EVERYTHING), TREE)

    def test_own(self):
        self.assertEqual(view(TREE, ("own", None, True)), ("e", 5, "tree", (("a", "1"), ("c", "3")), ()))
        self.assertEqual(view(TREE, ("own", None, False)), ("e", 5, "tree", (("a", "1"), ("c", "3")), ()))
        self.assertEqual(view(TREE, ("own", (), True)), ("e", 5, "tree", (), ()))
        self.assertEqual(view(TREE, ("own", ("b", "c"), True)), ("e", 5, "tree", (("c", "3"),), ()))

    def test_list(self):
        children = (("t", 0, ""), ("e", 4, "inner", (), ()), ("e", 1, "last", (), ()))
        for texts in (True, False):
            self.assertEqual(view(TREE, ("list", None, texts)), ("e", 5, "tree", (("a", "1"), ("c", "3")), children))
            self.assertEqual(view(TREE, ("list", ("a",), texts)), ("e", 5, "tree", (("a", "1"),), children))
            self.assertEqual(view(TREE, ("list", (), texts)), ("e", 5, "tree", (), children))

    def test_all_without_texts(self):
        self.assertEqual(view(TREE, ("all", None, False)), ("e", 5, "tree", (("a", "1"), ("c", "3")), (
            ("t", 0, ""),
            ("e", 4, "inner", (("b", "2"), ("c", "")), (("t", 9, ""), ("e", 6, "deep", (("a", ""),), ()))),
            ("e", 1, "last", (("a", "1"),), ()))))

    def test_all_with_some_marks(self):
        self.assertEqual(view(TREE, ("all", ("a", "b"), True)), ("e", 5, "tree", (("a", "1"),), (
            ("t", 0, "zero"),
            ("e", 4, "inner", (("b", "2"),), (("t", 9, "nine"), ("e", 6, "deep", (("a", ""),), ()))),
            ("e", 1, "last", (("a", "1"),), ()))))

    def test_all_without_marks(self):
        bald = ("e", 5, "tree", (), (
            ("t", 0, ""), ("e", 4, "inner", (), (("t", 9, ""), ("e", 6, "deep", (), ()))), ("e", 1, "last", (), ())))
        self.assertEqual(view(TREE, ("all", (), False)), bald)
        self.assertEqual(view(TREE, ("all", ("d", "inner", "tree"), False)), bald)

    def test_of_a_text(self):
        for scope, marks in product(("own", "list", "all"), (None, (), ("a",))):
            self.assertEqual(view(("t", 3, "abc"), (scope, marks, True)), ("t", 3, "abc"))
            self.assertEqual(view(("t", 3, "abc"), (scope, marks, False)), ("t", 3, ""))

    def test_of_a_deep_shape(self):
        shape = ("t", 2000, "end")
        for number in reversed(range(2000)):
            shape = ("e", number, "a", (("m", "v"),), (shape,))
        seen = view(shape, ("all", (), False))
        for number in range(2000):
            self.assertEqual(seen[:4], ("e", number, "a", ()))
            seen = seen[4][0]
        self.assertEqual(seen, ("t", 2000, ""))

    def test_bare(self):
        self.assertEqual(bare(TREE), ("e", 5, "tree", (), ()))
        self.assertEqual(bare(("e", 0, "a", (), ())), ("e", 0, "a", (), ()))
        self.assertEqual(bare(("t", 3, "abc")), ("t", 3, ""))

    def test_the_shape_stays(self):
        kept = repr(TREE)
        view(TREE, ("all", (), False))
        bare(TREE)
        self.assertEqual(repr(TREE), kept)


class IsWiderTest(unittest.TestCase):
    def test_scopes(self):
        row = ("own", "list", "all")
        for at, scope in enumerate(row):
            for other_at, other in enumerate(row):
                self.assertIs(is_wider((scope, None, True), (other, None, True)), at >= other_at, (scope, other))

    def test_texts(self):
        for texts, other in product((True, False), repeat=2):
            self.assertIs(is_wider(("all", None, texts), ("all", None, other)), texts or not other, (texts, other))

    def test_marks(self):
        wide = ((None, None), (None, ()), (None, ("a",)), ((), ()), (("a",), ()), (("a",), ("a",)),
                (("a", "b"), ("a",)), (("a", "b"), ("b",)), (("a", "b"), ("a", "b")), (("a", "b", "c"), ("a", "c")))
        for marks, other in wide:
            self.assertIs(is_wider(("own", marks, False), ("own", other, False)), True, (marks, other))
        narrow = (((), None), (("a",), None), ((), ("a",)), (("a",), ("b",)), (("a",), ("a", "b")),
                  (("b",), ("a", "b")), (("a", "c"), ("a", "b")))
        for marks, other in narrow:
            self.assertIs(is_wider(("own", marks, False), ("own", other, False)), False, (marks, other))

    def test_one_that_is_wider_does_not_make_up_for_another(self):
        self.assertIs(is_wider(("all", None, False), ("own", (), True)), False)
        self.assertIs(is_wider(("all", (), True), ("own", ("a",), False)), False)
        self.assertIs(is_wider(("own", None, True), ("list", (), False)), False)
        self.assertIs(is_wider(EVERYTHING, ("own", (), False)), True)


if __name__ == "__main__":
    unittest.main()
