import random
import unittest

from lookon.queries import is_test, looks_back, marks_of, names_of, subtests, texts_of, values_of
from samples import BACK, FORWARD, JOINS, chance_test

ANY = ("any",)
A, B = ("name", "a"), ("name", "b")
KINDS = (ANY, A, ("mark", "m"), ("value", "m", "v"), ("text", "s"), ("first",), ("last",), ("empty",), ("not", A),
         ("both", (A, B)), ("one", (A, B)), ("under", A), ("in", A), ("next", A), ("behind", A), ("over", A), ("has", A))
NESTING = ("not", "both", "one", "under", "in", "next", "behind", "over", "has")


def around(word, test):
    """The test with this word that has another one in it."""
    return (word, (ANY, test)) if word in ("both", "one") else (word, test)


def nested(depth, inner=ANY, words=("not",)):
    """A test so deep around an inner one that is 1 deep."""
    for place in range(depth - 1):
        inner = around(words[place % len(words)], inner)
    return inner


class IsTestTest(unittest.TestCase):
    def check(self, expected, values):
        for place, value in enumerate(values):
            # What is very deep cannot be shown.
            self.assertIs(is_test(value), expected, place)

    def test_each_kind(self):
        self.assertEqual(len(KINDS), 17)
        self.assertEqual(len({test[0] for test in KINDS}), 17)
        self.check(True, KINDS)

    def test_names(self):
        for make in (lambda name: ("name", name), lambda name: ("mark", name), lambda name: ("value", name, "v")):
            self.check(True, map(make, ("a", "z", "abcdefgh", "aaaa")))
            self.check(False, map(make, (
                "", "abcdefghi", "A", "aB", "a1", "a b", " a", "a-b", "a\n", "\u00e9", "a\u00e9", None, 1, True, ("a",),
                ["a"], {"a"}, {"a": 1}, b"a", 1.5)))

    def test_values_and_texts(self):
        for make in (lambda text: ("value", "m", text), lambda text: ("text", text)):
            self.check(True, map(make, ("", "x", "x" * 20, " ", "~", '"\\', "A1!", "'")))
            self.check(False, map(make, (
                "x" * 21, "%", "a%b", "\n", "\t", "\x7f", "\x1f", "\u00e9", None, 1, True, ("x",), ["x"], {"x"}, b"x")))

    def test_the_parts_of_both_and_one(self):
        for word in ("both", "one"):
            self.check(True, [(word, (A, B)), (word, (A, A)), (word, (A, B, ANY)), (word, (A, B, ANY, A))])
            self.check(False, [
                (word, ()), (word, (A,)), (word, (A, B, A, B, A)), (word, [A, B]), (word, A), (word, A, B), (word, (A, "b")),
                (word, (A, None)), (word, (("name", "A"), B)), (word, (A, B, ["any"])), (word, (A, B, ANY, ("last", 1))),
                (word, "ab"), (word, {A: 1, B: 2}), (word, {A, B}), (word, None), (word, 2)])

    def test_what_is_in_the_others_is_a_test(self):
        for word in NESTING:
            if word not in ("both", "one"):
                self.check(True, [(word, test) for test in KINDS])
                self.check(False, [(word, test) for test in (
                    None, "any", (), [], ["any"], ("name", ""), ("all",), True, (ANY,), (A, B), {}, ("any", ()))])

    def test_depth(self):
        for word in NESTING:
            for leaf in KINDS[:8]:
                self.check(True, [nested(depth, leaf, (word,)) for depth in range(1, 7)])
                self.check(False, [nested(depth, leaf, (word,)) for depth in (7, 8, 20)])
        self.check(True, [nested(6, A, NESTING[k:]) for k in range(9)])
        self.check(False, [nested(7, A, NESTING[k:]) for k in range(9)])

    def test_depth_of_each_part(self):
        for word in ("both", "one"):
            for place in range(4):
                parts = [A, B, ANY, A]
                parts[place] = nested(5)
                self.check(True, [(word, tuple(parts))])
                parts[place] = nested(6)
                self.check(False, [(word, tuple(parts))])

    def test_another_length(self):
        self.check(False, [test + (A,) for test in KINDS])
        self.check(False, [test + ("a",) for test in KINDS])
        self.check(False, [test[:-1] for test in KINDS])
        self.check(False, [("value", "m"), ("value", "m", "v", "w"), ("mark", "m", "v"), ("name",), ("not",), ("not", A, B)])

    def test_another_word(self):
        self.check(False, [(word,) for word in (
            "", "all", "Any", "ANY", " any", "anys", None, 1, True, b"any", ("any",), ["any"], {"any"}, {}, 1.5)])
        self.check(False, [(word, "a") for word in ("names", "Name", "tag", "", None, ["name"], {"name"}, ("name",))])
        self.check(False, [(word, A) for word in ("and", "or", "above", "child", "no", ["not"], {}, None, True)])

    def test_no_tuple(self):
        self.check(False, [None, True, False, 0, 1, 1.5, "", "any", b"any", object(), any, [], {}, set(), (), ((),), [()],
                           ["any"], ["name", "a"], ["not", A], {"any": 1}, {"any"}, range(3), iter("ab")])

    def test_what_cannot_be_hashed(self):
        self.check(False, [([],), ({}, "a"), ("name", []), ("not", []), ("not", ["any"]), ("both", ([], {})), ("both", []),
                           ("value", [], {}), ("text", {}), (set(),), ("one", (A, [A]))])

    def test_very_deep_and_very_wide(self):
        deep, listed = ANY, "any"
        for _ in range(100000):
            deep, listed = ("not", deep), [listed]
        self.check(False, [deep, ("both", (A, deep)), ("has", ("one", (deep, A))), listed, tuple(listed), ("not", listed)])
        wide = (A,) * 100000
        self.check(False, [wide, ("both", wide), ("one", wide), ("any",) + wide, ("not",) + wide, ("name", "a" * 100000),
                           ("text", "a" * 100000)])

    def test_the_widest(self):
        test = ANY
        for _ in range(5):
            test = ("both", (test,) * 4)
        self.check(True, [test])
        self.check(False, [("both", (test,) * 2), ("not", test)])

    def test_by_chance(self):
        chance = random.Random(12)
        self.check(True, [chance_test(chance, 6) for _ in range(300)])


class MentionsTest(unittest.TestCase):
    def test_nothing(self):
        for test in (ANY, ("first",), ("both", (("last",), ("has", ("empty",))))):
            for mentioned in (names_of(test), marks_of(test), texts_of(test), values_of(test, "m")):
                self.assertEqual(mentioned, [])

    def test_each_alone(self):
        self.assertEqual((names_of(A), marks_of(A), texts_of(A), values_of(A, "a")), (["a"], [], [], []))
        test = ("mark", "m")
        self.assertEqual((names_of(test), marks_of(test), texts_of(test), values_of(test, "m")), ([], ["m"], [], []))
        test = ("value", "m", "v")
        self.assertEqual((names_of(test), marks_of(test), texts_of(test), values_of(test, "m")), ([], ["m"], [], ["v"]))
        test = ("text", "s")
        self.assertEqual((names_of(test), marks_of(test), texts_of(test), values_of(test, "s")), ([], [], ["s"], []))

    def test_within_each_kind(self):
        for word in NESTING:
            test = around(word, around(word, ("both", (A, ("value", "m", "v"), ("text", "s"), ("mark", "k")))))
            self.assertEqual(names_of(test), ["a"])
            self.assertEqual(marks_of(test), ["k", "m"])
            self.assertEqual(texts_of(test), ["s"])
            self.assertEqual(values_of(test, "m"), ["v"])

    def test_ascending_and_each_once(self):
        names = ("one", (("name", "c"), ("name", "ab"), ("not", ("both", (("name", "a"), ("name", "c")))), ("name", "b")))
        self.assertEqual(names_of(names), ["a", "ab", "b", "c"])
        marks = ("one", (("value", "z", "a"), ("mark", "b"), ("under", ("one", (("value", "b", "x"), ("mark", "z")))),
                         ("value", "a", "")))
        self.assertEqual(marks_of(marks), ["a", "b", "z"])
        texts = ("one", (("text", "b"), ("text", ""), ("in", ("both", (("text", "B"), ("text", "b")))), ("text", "10")))
        self.assertEqual(texts_of(texts), ["", "10", "B", "b"])

    def test_the_values_of_one_mark(self):
        test = ("both", (("value", "m", "2"), ("value", "n", "3"), ("one", (("value", "m", "10"), ("value", "m", "2"))),
                         ("has", ("both", (("mark", "m"), ("value", "m", ""))))))
        self.assertEqual(values_of(test, "m"), ["", "10", "2"])
        self.assertEqual(values_of(test, "n"), ["3"])
        self.assertEqual(values_of(test, "k"), [])

    def test_a_word_is_no_name(self):
        test = ("both", (("mark", "name"), ("name", "mark"), ("text", "text"), ("value", "value", "name")))
        self.assertEqual((names_of(test), marks_of(test), texts_of(test)), (["mark"], ["name", "value"], ["text"]))

    def test_what_is_returned_may_be_spoilt(self):
        test = ("both", (A, ("value", "m", "v"), ("text", "s")))
        for call in (names_of, marks_of, texts_of, subtests, lambda test: values_of(test, "m")):
            expected = list(call(test))
            call(test).clear()
            self.assertEqual(call(test), expected)


class SubtestsTest(unittest.TestCase):
    def test_alone(self):
        for test in KINDS[:8]:
            self.assertEqual(subtests(test), [test])

    def test_within_each_kind(self):
        for test in KINDS[8:]:
            self.assertEqual(subtests(test), [A, B, test] if test[0] in ("both", "one") else [A, test])

    def test_each_once(self):
        inner = ("not", A)
        test = ("both", (inner, ("one", (A, inner)), inner, ("under", inner)))
        found = subtests(test)
        self.assertCountEqual(found, [A, inner, ("one", (A, inner)), ("under", inner), test])
        self.assertEqual(subtests(("one", (A, A, A))), [A, ("one", (A, A, A))])

    def test_by_chance(self):
        chance = random.Random(13)
        for _ in range(200):
            test = chance_test(chance, 5)
            found = subtests(test)
            self.assertEqual(found[-1], test)
            for place, part in enumerate(found):
                self.assertNotIn(part, found[:place])
                inner = part[1] if part[0] in ("both", "one") else part[1:] if part[0] in JOINS + BACK + FORWARD else ()
                for deeper in inner:
                    self.assertIn(deeper, found[:place])


class LooksBackTest(unittest.TestCase):
    def test_each_kind(self):
        for test in KINDS:
            self.assertIs(looks_back(test), test[0] not in ("last", "empty", "over", "has"), test)

    def test_deep_within(self):
        for forward in (("last",), ("empty",), ("over", ANY), ("has", ANY)):
            for word in NESTING:
                self.assertIs(looks_back(around(word, forward)), False)
                self.assertIs(looks_back(nested(5, forward, (word, "one", "not"))), False)
            self.assertIs(looks_back(("both", (forward, A))), False)

    def test_deep_tests_that_look_back(self):
        for word in NESTING[:7]:
            self.assertIs(looks_back(nested(6, ("first",), (word,))), True)

    def test_a_name_is_no_word(self):
        test = ("both", (("name", "last"), ("mark", "empty"), ("value", "over", "has"), ("text", "last")))
        self.assertIs(looks_back(test), True)


if __name__ == "__main__":
    unittest.main()
