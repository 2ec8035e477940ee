import random
import unittest

from lookon.matching import answer
from lookon.needs import may_touch, options_of
from lookon.rebuilding import rebuild
from lookon.views import EVERYTHING, is_wider, view
from samples import FORWARD_LEAVES, LEAVES, WHOLE, chance_record, chance_shape, chance_test

ANY, TEXT, EMPTY = ("any",), ("text", "s"), ("empty",)
AROUND = (lambda test: test, lambda test: ("not", test), lambda test: ("both", (ANY, ("has", test))),
          lambda test: ("one", (("in", ("next", test)), ANY, ANY)), lambda test: ("over", ("behind", ("under", test))))


class OptionsOfTest(unittest.TestCase):
    def test_nothing_is_mentioned(self):
        for test in (ANY, ("first",), ("name", "m"), ("has", ("both", (("last",), EMPTY)))):
            self.assertEqual(options_of(test), ("all", (), False))

    def test_marks(self):
        self.assertEqual(options_of(("mark", "m")), ("all", ("m",), False))
        self.assertEqual(options_of(("value", "m", "v")), ("all", ("m",), False))
        test = ("one", (("mark", "z"), ("has", ("value", "b", "1")), ("not", ("one", (("value", "b", "2"), ("mark", "ab")))),
                        ("under", ("one", (("mark", "z"), ("name", "n"))))))
        self.assertEqual(options_of(test), ("all", ("ab", "b", "z"), False))

    def test_texts(self):
        for around in AROUND:
            self.assertEqual(options_of(around(TEXT)), ("all", (), True))
            self.assertEqual(options_of(around(("text", ""))), ("all", (), True))
            self.assertEqual(options_of(around(EMPTY)), ("all", (), False))
        self.assertEqual(options_of(("both", (("mark", "m"), TEXT))), ("all", ("m",), True))

    def test_the_answer_in_the_view_is_that_in_the_shape(self):
        chance = random.Random(17)
        for _ in range(800):
            test, shape = chance_test(chance, chance.randint(1, 5)), chance_shape(chance, chance.randint(1, 9))
            expected = answer(shape, test)
            options = options_of(test)
            self.assertEqual(answer(view(shape, options), test), expected, (test, shape))
            for marks in (options[1], tuple(sorted({*options[1], "m", "k"})), None):
                for texts in (options[2], True):
                    wider = ("all", marks, texts)
                    self.assertTrue(is_wider(wider, options))
                    self.assertEqual(answer(view(shape, wider), test), expected, (test, shape, wider))
            self.assertEqual(answer(view(shape, EVERYTHING), test), expected)


class MayTouchTest(unittest.TestCase):
    """The view is WHOLE: 0 [1 "one", 2 [3 "three", 4, 5 [6 "six"]], 7]."""

    def check(self, expected, test, records):
        for around in AROUND:
            for record in records:
                self.assertIs(may_touch(around(test), WHOLE, record), expected, (around(test), record))

    def test_marks(self):
        records = [("mark", 0, "m", "1"), ("mark", 5, "m", None), ("mark", 7, "m", "")]
        for test in (("mark", "m"), ("value", "m", "v"), ("both", (("mark", "a"), ("value", "m", "2")))):
            self.check(True, test, records)
        for test in (ANY, ("mark", "n"), ("value", "a", "m"), ("name", "m"), ("text", "m"), ("first",), ("last",), EMPTY):
            self.check(False, test, records)

    def test_texts(self):
        records = [("text", 1, "s"), ("text", 6, ""), ("text", 3, "other")]
        for test in (TEXT, ("text", ""), ("both", (ANY, ("text", "t")))):
            self.check(True, test, records)
        for test in (ANY, EMPTY, ("mark", "m"), ("value", "m", "s"), ("name", "s"), ("first",), ("last",)):
            self.check(False, test, records)

    def test_puts_and_outs_of_texts(self):
        records = [("put", 0, ("t", 20, "s"), None), ("put", 7, ("t", 20, ""), None), ("put", 2, ("t", 20, "x"), 4),
                   ("out", 0, 1), ("out", 5, 6), ("out", 2, 3)]
        for test in (TEXT, ("text", "other"), EMPTY, ("both", (ANY, EMPTY)), ("one", (TEXT, EMPTY))):
            self.check(True, test, records)
        for test in (ANY, ("mark", "m"), ("value", "m", "s"), ("name", "s"), ("first",), ("last",)):
            self.check(False, test, records)

    def test_puts_and_outs_of_elements(self):
        new = ("e", 20, "a", (), ())
        records = [("put", 0, new, None), ("put", 2, ("e", 20, "a", (("m", "1"),), (("t", 21, "s"),)), 3), ("put", 7, new, None),
                   ("out", 0, 7), ("out", 0, 2), ("out", 2, 4), ("out", 2, 5)]
        for test in LEAVES + FORWARD_LEAVES:
            self.check(True, test, records)

    def test_what_may_not_touch_leaves_the_answer(self):
        chance, told = random.Random(18), set()
        for _ in range(3000):
            test, shape = chance_test(chance, chance.randint(1, 4)), chance_shape(chance, chance.randint(1, 8))
            record = chance_record(chance, shape)
            touched, changed = may_touch(test, shape, record), answer(shape, test) != answer(rebuild(shape, [record]), test)
            self.assertTrue(touched or not changed, (test, shape, record))
            told.add((record[0], touched, changed))
        self.assertEqual(told, {(word, *pair) for word in ("mark", "text", "put", "out")
                                for pair in ((False, False), (True, False), (True, True))})


if __name__ == "__main__":
    unittest.main()
