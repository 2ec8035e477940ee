import random
import unittest

from lookon.matching import answer
from samples import chance_shape, chance_test, slow_answer

ANY = ("any",)

# a0 { b1{m=1} ["s"], "t", c2 { "x" }, b3 { a4{m=2 n=1}, "s", b5 { c6{n=} [ "s" "" ] } } , a7 }
DEEP = ("e", 6, "c", (("n", ""),), (("t", 16, "s"), ("t", 17, "")))
WHOLE = ("e", 0, "a", (), (
    ("t", 10, "t"),
    ("e", 1, "b", (("m", "1"),), (("t", 11, "s"),)),
    ("t", 12, "t"),
    ("e", 2, "c", (), (("t", 13, "x"),)),
    ("e", 3, "b", (), (
        ("e", 4, "a", (("m", "2"), ("n", "1")), ()),
        ("t", 14, "s"),
        ("e", 5, "b", (), (DEEP,)))),
    ("e", 7, "a", (), ()),
    ("t", 15, "")))
EVERY = [0, 1, 2, 3, 4, 5, 6, 7]


class AnswerTest(unittest.TestCase):
    def check(self, test, expected):
        self.assertEqual(answer(WHOLE, test), expected, test)
        self.assertEqual(answer(WHOLE, ("not", test)), [number for number in EVERY if number not in expected], test)

    def test_any(self):
        self.check(ANY, EVERY)

    def test_name(self):
        self.check(("name", "a"), [0, 4, 7])
        self.check(("name", "b"), [1, 3, 5])
        self.check(("name", "c"), [2, 6])
        self.check(("name", "d"), [])
        self.check(("name", "aa"), [])

    def test_mark(self):
        self.check(("mark", "m"), [1, 4])
        self.check(("mark", "n"), [4, 6])
        self.check(("mark", "a"), [])

    def test_value(self):
        self.check(("value", "m", "1"), [1])
        self.check(("value", "m", "2"), [4])
        self.check(("value", "n", ""), [6])
        self.check(("value", "m", ""), [])
        self.check(("value", "k", ""), [])

    def test_text(self):
        self.check(("text", "s"), [1, 3, 6])
        self.check(("text", "t"), [0])
        self.check(("text", ""), [0, 6])
        self.check(("text", "x"), [2])
        self.check(("text", "ss"), [])
        self.check(("text", "a"), [])

    def test_first_and_last(self):
        self.check(("first",), [0, 1, 4, 6])
        self.check(("last",), [0, 5, 6, 7])

    def test_empty(self):
        self.check(("empty",), [4, 7])

    def test_both_and_one(self):
        self.check(("both", (("name", "b"), ("text", "s"))), [1, 3])
        self.check(("both", (("name", "b"), ("text", "s"), ("mark", "m"))), [1])
        self.check(("both", (("name", "b"), ("text", "s"), ("mark", "m"), ("value", "m", "2"))), [])
        self.check(("one", (("name", "c"), ("mark", "m"))), [1, 2, 4, 6])
        self.check(("one", (("name", "d"), ("mark", "k"), ("text", "x"), ("empty",))), [2, 4, 7])
        self.check(("both", (ANY, ANY)), EVERY)

    def test_not(self):
        self.check(("not", ("not", ("name", "b"))), [1, 3, 5])

    def test_under_and_in(self):
        self.check(("under", ANY), [1, 2, 3, 4, 5, 6, 7])
        self.check(("under", ("name", "b")), [4, 5, 6])
        self.check(("under", ("name", "a")), [1, 2, 3, 7])
        self.check(("under", ("under", ("name", "a"))), [4, 5])
        self.check(("in", ANY), [1, 2, 3, 4, 5, 6, 7])
        self.check(("in", ("name", "a")), [1, 2, 3, 4, 5, 6, 7])
        self.check(("in", ("text", "s")), [4, 5, 6])
        self.check(("in", ("in", ("text", "s"))), [6])
        self.check(("in", ("name", "c")), [])

    def test_next_and_behind(self):
        self.check(("next", ANY), [2, 3, 5, 7])
        self.check(("next", ("name", "b")), [2, 7])
        self.check(("next", ("next", ("name", "b"))), [3])
        self.check(("next", ("name", "a")), [5])
        self.check(("behind", ANY), [2, 3, 5, 7])
        self.check(("behind", ("mark", "m")), [2, 3, 5, 7])
        self.check(("behind", ("name", "c")), [3, 7])
        self.check(("behind", ("text", "s")), [2, 3, 7])
        self.check(("behind", ("behind", ("name", "c"))), [7])
        self.check(("behind", ("name", "d")), [])

    def test_over_and_has(self):
        self.check(("over", ANY), [0, 3, 5])
        self.check(("over", ("name", "a")), [0, 3])
        self.check(("over", ("name", "c")), [0, 5])
        self.check(("over", ("over", ANY)), [0, 3])
        self.check(("has", ANY), [0, 3, 5])
        self.check(("has", ("value", "n", "")), [0, 3, 5])
        self.check(("has", ("mark", "m")), [0, 3])
        self.check(("has", ("has", ("name", "c"))), [0, 3])
        self.check(("has", ("name", "d")), [])

    def test_of_these_together(self):
        self.check(("both", (("name", "b"), ("not", ("first",)))), [3, 5])
        self.check(("in", ("both", (("name", "b"), ("next", ("name", "c"))))), [4, 5, 6])
        self.check(("has", ("both", (("name", "c"), ("under", ("next", ("mark", "n")))))), [0, 3, 5])
        self.check(("one", (("not", ("under", ANY)), ("behind", ("over", ANY)))), [0, 7])
        self.check(("next", ("not", ("one", (("mark", "m"), ("text", "x"))))), [7])
        self.check(("not", ("one", (("last",), ("first",)))), [2, 3])

    def test_the_root(self):
        for root in (("e", 5, "a", (), ()), ("e", 5, "a", (), (("t", 0, "s"),))):
            for test, holds in ((ANY, True), (("first",), True), (("last",), True), (("under", ANY), False),
                                (("in", ANY), False), (("next", ANY), False), (("behind", ANY), False),
                                (("over", ANY), False), (("has", ANY), False), (("empty",), root[4] == ()),
                                (("text", "s"), root[4] != ()), (("name", "a"), True)):
                self.assertEqual(answer(root, test), [5] if holds else [], test)

    def test_a_part_of_a_shape_is_a_view_of_its_own(self):
        part = WHOLE[4][4]
        self.assertEqual(answer(part, ("first",)), [3, 4, 6])
        self.assertEqual(answer(part, ("last",)), [3, 5, 6])
        self.assertEqual(answer(part, ("under", ANY)), [4, 5, 6])
        self.assertEqual(answer(part, ("next", ANY)), [5])

    def test_texts_between_are_passed_over(self):
        row = ("e", 0, "a", (), (("t", 1, "x"), ("e", 2, "b", (), ()), ("t", 3, "x"), ("t", 4, "y"), ("e", 5, "c", (), ()),
                                 ("t", 6, "x")))
        self.assertEqual(answer(row, ("both", (("under", ANY), ("first",)))), [2])
        self.assertEqual(answer(row, ("both", (("under", ANY), ("last",)))), [5])
        self.assertEqual(answer(row, ("next", ("name", "b"))), [5])
        self.assertEqual(answer(row, ("behind", ("name", "b"))), [5])

    def test_only_children_count_for_texts(self):
        row = ("e", 0, "a", (), (("e", 1, "b", (), (("t", 2, "x"),)),))
        self.assertEqual(answer(row, ("text", "x")), [1])

    def test_the_order_is_that_of_the_view_not_of_the_numbers(self):
        tree = ("e", 9, "a", (), (("e", 5, "a", (), (("e", 7, "a", (), ()), ("e", 3, "a", (), ()))), ("t", 1, ""),
                                  ("e", 4, "a", (), (("e", 0, "a", (), ()),)), ("e", 8, "a", (), ())))
        self.assertEqual(answer(tree, ANY), [9, 5, 7, 3, 4, 0, 8])
        self.assertEqual(answer(tree, ("empty",)), [7, 3, 0, 8])

    def test_several_ahead(self):
        row = ("e", 0, "top", (), tuple(("e", number, name, (), ()) for number, name in enumerate("abcab", 1)))
        self.assertEqual(answer(row, ("next", ("name", "a"))), [2, 5])
        self.assertEqual(answer(row, ("behind", ("name", "b"))), [3, 4, 5])
        self.assertEqual(answer(row, ("behind", ("behind", ("name", "b")))), [4, 5])
        self.assertEqual(answer(row, ("next", ("behind", ("name", "b")))), [4, 5])

    def test_deep_views(self):
        tree = ("e", 3000, "b", (), ())
        for number in reversed(range(3000)):
            tree = ("e", number, "a", (), (tree,))
        self.assertEqual(answer(tree, ("in", ("under", ("name", "a")))), list(range(2, 3001)))
        self.assertEqual(answer(tree, ("has", ("name", "b"))), list(range(3000)))

    def test_what_is_returned_may_be_spoilt(self):
        answer(WHOLE, ANY).clear()
        self.assertEqual(answer(WHOLE, ANY), EVERY)

    def test_by_chance(self):
        chance = random.Random(14)
        for _ in range(2500):
            test, shape = chance_test(chance, chance.randint(1, 5)), chance_shape(chance, chance.randint(1, 10))
            self.assertEqual(answer(shape, test), slow_answer(shape, test), (test, shape))


if __name__ == "__main__":
    unittest.main()
