import unittest

from lookon.names import MOST_NODES, are_ascending, is_name, is_number, is_plain

NO_TEXTS = (None, 0, 1, True, False, b"a", ["a"], ("a",), {"a": 1}, {"a"}, 1.5, object())


class NamesTest(unittest.TestCase):
    def test_names(self):
        for value in ("a", "z", "m", "az", "abcdefgh", "zzzzzzzz"):
            self.assertIs(is_name(value), True, value)

    def test_texts_that_are_no_names(self):
        for value in ("", "abcdefghi", "A", "aB", "Abc", "a b", " a", "a ", "a1", "1", "a_b", "a-b", "`", "{",
                      "\u00e4", "\u00df", "a\u00e9", "\u0430", "a\n", "\n", "a\x00"):
            self.assertIs(is_name(value), False, value)

    def test_other_values_are_no_names(self):
        for value in NO_TEXTS:
            self.assertIs(is_name(value), False, value)

    def test_each_character_alone(self):
        letters = "abcdefghijklmnopqrstuvwxyz"
        for code in range(0, 400):
            self.assertIs(is_name(chr(code)), chr(code) in letters, code)


class PlainTextsTest(unittest.TestCase):
    def test_plain_texts(self):
        for value in ("", " ", "~", "a b", "Az09", "\"\\'{}[]=", "x" * 20, " " * 20, "~" * 20):
            self.assertIs(is_plain(value), True, value)

    def test_texts_that_are_not_plain(self):
        for value in ("x" * 21, " " * 21, "%", "a%", "%" * 20, "\x1f", "\x7f", "\n", "a\nb", "\t", "\x00", "\u00a0",
                      "\u00e4", "a\u20ac"):
            self.assertIs(is_plain(value), False, value)

    def test_other_values_are_not_plain(self):
        for value in NO_TEXTS:
            self.assertIs(is_plain(value), False, value)

    def test_each_character_alone(self):
        for code in range(0, 400):
            expected = 32 <= code <= 126 and code != 37
            self.assertIs(is_plain(chr(code)), expected, code)
            self.assertIs(is_plain("ab" + chr(code)), expected, code)


class NumbersTest(unittest.TestCase):
    def test_numbers(self):
        for value in (0, 1, 59, 60, 10 ** 30):
            self.assertIs(is_number(value), True, value)

    def test_others(self):
        for value in (-1, -60, True, False, None, "0", "", 0.0, 1.0, (0,), [0], b"0", object()):
            self.assertIs(is_number(value), False, value)

    def test_most_nodes(self):
        self.assertEqual(MOST_NODES, 60)


class AscendingTest(unittest.TestCase):
    def test_ascending(self):
        for names in ((), [], ("a",), ["a"], ("a", "b"), ["a", "ab", "b"], ("a", "b", "c", "d"), [1, 2, 9]):
            self.assertIs(are_ascending(names), True, names)

    def test_not_ascending(self):
        for names in (("a", "a"), ["b", "a"], ("a", "c", "b"), ["a", "b", "b"], ["b", "b", "c"], ("b", "a", "c")):
            self.assertIs(are_ascending(names), False, names)

    def test_the_list_stays(self):
        names = ["b", "a"]
        are_ascending(names)
        self.assertEqual(names, ["b", "a"])


if __name__ == "__main__":
    unittest.main()
