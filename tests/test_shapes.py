import unittest

from lookon.shapes import (children_of, find, following, is_shape, mark_of, numbers_of, parent_of, replaced, way_to,
                           with_child, with_mark, without_child)

LEAF = ("t", 7, "leaf")
INNER = ("e", 4, "inner", (("b", "2"), ("d", "")), (("t", 9, "x"), LEAF))
TREE = ("e", 5, "tree", (), (("t", 0, ""), INNER, ("e", 1, "last", (("a", "1"),), ())))


def chain(depth):
    shape = ("t", depth, "end")
    for number in reversed(range(depth)):
        shape = ("e", number, "a", (), (shape,))
    return shape


class IsShapeTest(unittest.TestCase):
    def test_shapes(self):
        for value in (LEAF, INNER, TREE, ("e", 0, "a", (), ()), ("t", 0, ""), ("t", 10 ** 20, "x" * 20),
                      ("e", 0, "abcdefgh", (("a", ""), ("b", "x" * 20)), ()), chain(60)):
            self.assertIs(is_shape(value), True, value)

    def test_deep_shapes(self):
        self.assertIs(is_shape(chain(5000)), True)

    def test_other_kinds(self):
        for value in (None, 0, True, "t", "", (), [], {}, ("t",), ("e",), ("t", 0), ("e", 0), ("e", 0, "a"),
                      ("e", 0, "a", ()), ("e", 0, "a", (), (), ()), ("t", 0, "x", ()), ("t", 0, "x", (), ()),
                      ("t", 0, "x", (), (("t", 1, "y"),)), ("x", 0, "a"), ("x", 0, "a", (), ()), (0, 0, "a"),
                      ("e", 0, "a", (), (), None), (None, 0, "a", (), ()), ("E", 0, "a", (), ()), object()):
            self.assertIs(is_shape(value), False, value)

    def test_lists_in_place_of_tuples(self):
        for value in (["t", 0, "x"], ["e", 0, "a", (), ()], ("e", 0, "a", [], ()), ("e", 0, "a", (), []),
                      ("e", 0, "a", (["m", "v"],), ()), ("e", 0, "a", (), (["t", 1, "x"],)),
                      ("e", 0, "a", {}, ()), ("e", 0, "a", (), {}), ("e", 0, "a", (), "")):
            self.assertIs(is_shape(value), False, value)

    def test_numbers(self):
        for number in (-1, True, False, None, "0", 0.0, (0,)):
            self.assertIs(is_shape(("t", number, "")), False, number)
            self.assertIs(is_shape(("e", number, "a", (), ())), False, number)
            self.assertIs(is_shape(("e", 3, "a", (), (("t", number, ""),))), False, number)

    def test_names_and_texts(self):
        for name in ("", "A", "abcdefghi", "a b", None, 0, b"a", ("a",)):
            self.assertIs(is_shape(("e", 0, name, (), ())), False, name)
        for text in ("x" * 21, "%", "\n", "\x7f", None, 0, b"a", ("a",)):
            self.assertIs(is_shape(("t", 0, text)), False, text)
            self.assertIs(is_shape(("e", 0, "a", (("m", text),), ())), False, text)
            self.assertIs(is_shape(("e", 0, "a", (), (("t", 1, text),))), False, text)

    def test_marks(self):
        for marks in ((("b", ""), ("a", "")), (("a", ""), ("a", "")), (("a", "1"), ("a", "2")), ("a",), ("ab",),
                      (("a",),), (("a", "", ""),), (("A", ""),), (("", ""),), (("a", None),), (("a", 1),), ((1, ""),),
                      (("a", ""), ("c", ""), ("b", "")), None, "", 0):
            self.assertIs(is_shape(("e", 0, "a", marks, ())), False, marks)

    def test_children(self):
        for children in (None, 0, "ab", ("t",), (None,), ("t", 1, ""), ((),), (("e", 1, "a"),)):
            self.assertIs(is_shape(("e", 0, "a", (), children)), False, children)

    def test_a_number_twice(self):
        twice = ("t", 3, "")
        for value in (("e", 3, "a", (), (twice,)),
                      ("e", 0, "a", (), (twice, twice)),
                      ("e", 0, "a", (), (twice, ("e", 1, "b", (), (twice,)))),
                      ("e", 0, "a", (), (("e", 1, "b", (), (("t", 3, "x"),)), ("e", 2, "b", (), (twice,)))),
                      ("e", 3, "a", (), (("e", 1, "b", (), (twice,)),)),
                      ("e", 0, "a", (), (("e", 3, "b", (), (("e", 3, "c", (), ()),)),))):
            self.assertIs(is_shape(value), False, value)

    def test_faults_far_below(self):
        for part in (("t", 8, "%"), ["t", 8, ""], ("e", 8, "a", (), []), ("t", 8, "", ()), None):
            value = ("e", 0, "a", (), (("t", 1, ""), ("e", 2, "b", (), (("e", 3, "c", (), (part,)), ("t", 4, "")))))
            self.assertIs(is_shape(value), False, part)


class ReadingTest(unittest.TestCase):
    def test_numbers_of(self):
        self.assertEqual(numbers_of(TREE), [5, 0, 4, 9, 7, 1])
        self.assertEqual(numbers_of(INNER), [4, 9, 7])
        self.assertEqual(numbers_of(LEAF), [7])
        self.assertEqual(numbers_of(chain(3)), [0, 1, 2, 3])

    def test_the_list_of_numbers_is_the_callers(self):
        numbers_of(TREE).clear()
        self.assertEqual(numbers_of(TREE), [5, 0, 4, 9, 7, 1])

    def test_children_of(self):
        self.assertEqual(children_of(TREE), TREE[4])
        self.assertEqual(children_of(INNER), (("t", 9, "x"), LEAF))
        self.assertEqual(children_of(("e", 1, "a", (), ())), ())
        self.assertEqual(children_of(LEAF), ())

    def test_find(self):
        self.assertEqual(find(TREE, 5), TREE)
        self.assertEqual(find(TREE, 4), INNER)
        self.assertEqual(find(TREE, 7), LEAF)
        self.assertEqual(find(TREE, 0), ("t", 0, ""))
        self.assertEqual(find(LEAF, 7), LEAF)
        for number in (2, 6, 60, -1):
            self.assertIsNone(find(TREE, number))
        self.assertIsNone(find(LEAF, 5))

    def test_parent_of(self):
        self.assertEqual([parent_of(TREE, number) for number in (0, 4, 9, 7, 1)], [5, 5, 4, 4, 5])
        self.assertIsNone(parent_of(TREE, 5))
        self.assertIsNone(parent_of(TREE, 2))
        self.assertIsNone(parent_of(INNER, 4))
        self.assertIsNone(parent_of(INNER, 1))
        self.assertIsNone(parent_of(LEAF, 7))

    def test_way_to(self):
        self.assertEqual(way_to(TREE, 7), (7, 4, 5))
        self.assertEqual(way_to(TREE, 4), (4, 5))
        self.assertEqual(way_to(TREE, 5), (5,))
        self.assertEqual(way_to(INNER, 7), (7, 4))
        self.assertEqual(way_to(LEAF, 7), (7,))
        self.assertEqual(way_to(TREE, 2), ())
        self.assertEqual(way_to(LEAF, 5), ())
        self.assertEqual(way_to(chain(3), 3), (3, 2, 1, 0))

    def test_following(self):
        self.assertEqual(following(TREE, 0), 4)
        self.assertEqual(following(TREE, 4), 1)
        self.assertIsNone(following(TREE, 1))
        self.assertEqual(following(INNER, 9), 7)
        self.assertIsNone(following(INNER, 7))

    def test_following_a_node_that_is_no_child(self):
        for number in (5, 9, 7, 2):
            self.assertIsNone(following(TREE, number))
        self.assertIsNone(following(("e", 0, "a", (), ()), 1))

    def test_mark_of(self):
        self.assertEqual(mark_of(INNER, "b"), "2")
        self.assertEqual(mark_of(INNER, "d"), "")
        for name in ("a", "c", "inner"):
            self.assertIsNone(mark_of(INNER, name))
        self.assertIsNone(mark_of(TREE, "a"))


class ChangingTest(unittest.TestCase):
    def test_replaced(self):
        new = ("e", 20, "new", (), (("t", 21, ""),))
        self.assertEqual(replaced(TREE, 5, new), new)
        self.assertEqual(replaced(LEAF, 7, new), new)
        self.assertEqual(replaced(TREE, 4, new), ("e", 5, "tree", (), (TREE[4][0], new, TREE[4][2])))
        inner = ("e", 4, "inner", (("b", "2"), ("d", "")), (new, LEAF))
        self.assertEqual(replaced(TREE, 9, new), ("e", 5, "tree", (), (TREE[4][0], inner, TREE[4][2])))

    def test_replaced_by_one_with_the_same_number(self):
        inner = ("e", 4, "inner", (("b", "2"), ("d", "")), (("t", 9, "x"), ("t", 7, "other")))
        self.assertEqual(replaced(TREE, 7, ("t", 7, "other")),
                         ("e", 5, "tree", (), (TREE[4][0], inner, TREE[4][2])))

    def test_replaced_without_such_a_part(self):
        self.assertEqual(replaced(TREE, 2, LEAF), TREE)
        self.assertEqual(replaced(LEAF, 5, TREE), LEAF)

    def test_replaced_at_each_depth(self):
        for depth in range(1, 60):
            new = ("t", depth, "new")
            expected = new
            for number in reversed(range(depth)):
                expected = ("e", number, "a", (), (expected,))
            self.assertEqual(replaced(chain(60), depth, new), expected)

    def test_without_child(self):
        first, second, third = TREE[4]
        self.assertEqual(without_child(TREE, 0), ("e", 5, "tree", (), (second, third)))
        self.assertEqual(without_child(TREE, 4), ("e", 5, "tree", (), (first, third)))
        self.assertEqual(without_child(TREE, 1), ("e", 5, "tree", (), (first, second)))
        self.assertEqual(without_child(INNER, 9), ("e", 4, "inner", (("b", "2"), ("d", "")), (LEAF,)))
        self.assertEqual(without_child(("e", 0, "a", (), (LEAF,)), 7), ("e", 0, "a", (), ()))
        self.assertEqual(without_child(TREE, 9), TREE)

    def test_with_child(self):
        new = ("e", 20, "new", (), ())
        first, second, third = TREE[4]
        self.assertEqual(with_child(TREE, new, 0), ("e", 5, "tree", (), (new, first, second, third)))
        self.assertEqual(with_child(TREE, new, 4), ("e", 5, "tree", (), (first, new, second, third)))
        self.assertEqual(with_child(TREE, new, 1), ("e", 5, "tree", (), (first, second, new, third)))
        self.assertEqual(with_child(TREE, new, None), ("e", 5, "tree", (), (first, second, third, new)))
        self.assertEqual(with_child(INNER, new, 7),
                         ("e", 4, "inner", (("b", "2"), ("d", "")), (("t", 9, "x"), new, LEAF)))
        self.assertEqual(with_child(("e", 0, "a", (), ()), LEAF, None), ("e", 0, "a", (), (LEAF,)))

    def test_with_mark(self):
        def marks(name, value):
            changed = with_mark(INNER, name, value)
            self.assertEqual((changed[:3], changed[4]), (INNER[:3], INNER[4]))
            return changed[3]
        self.assertEqual(marks("a", "x"), (("a", "x"), ("b", "2"), ("d", "")))
        self.assertEqual(marks("c", "x"), (("b", "2"), ("c", "x"), ("d", "")))
        self.assertEqual(marks("e", "x"), (("b", "2"), ("d", ""), ("e", "x")))
        self.assertEqual(marks("b", "x"), (("b", "x"), ("d", "")))
        self.assertEqual(marks("b", ""), (("b", ""), ("d", "")))
        self.assertEqual(marks("b", "2"), INNER[3])
        self.assertEqual(marks("d", None), (("b", "2"),))
        self.assertEqual(marks("b", None), (("d", ""),))
        self.assertEqual(marks("a", None), INNER[3])

    def test_what_is_made_is_a_shape_and_what_was_handed_in_stays(self):
        kept = repr(TREE)
        for shape in (replaced(TREE, 9, ("t", 30, "")), without_child(TREE, 4), with_child(TREE, ("t", 30, ""), 4),
                      with_mark(TREE, "z", ""), with_mark(with_mark(TREE, "z", ""), "b", "")):
            self.assertTrue(is_shape(shape))
        self.assertEqual(repr(TREE), kept)


if __name__ == "__main__":
    unittest.main()
