import random
import unittest

from lookon.errors import BadText, InvalidArgument
from lookon.shapes import is_shape, numbers_of
from lookon.treetexts import format_tree, parse_tree

SAMPLES = {
    'a': ("e", 0, "a", (), ()),
    'abcdefgh': ("e", 0, "abcdefgh", (), ()),
    '""': ("t", 0, ""),
    '"a b"': ("t", 0, "a b"),
    '"\\""': ("t", 0, '"'),
    '"\\\\"': ("t", 0, "\\"),
    '"\\\\\\""': ("t", 0, '\\"'),
    '"{[=]}~ "': ("t", 0, "{[=]}~ "),
    'a{m=""}': ("e", 0, "a", (("m", ""),), ()),
    'a{m="1" n="\\""}': ("e", 0, "a", (("m", "1"), ("n", '"')), ()),
    'a{m="1" mm="2"}': ("e", 0, "a", (("m", "1"), ("mm", "2")), ()),
    'a[b]': ("e", 0, "a", (), (("e", 1, "b", (), ()),)),
    'a["" ""]': ("e", 0, "a", (), (("t", 1, ""), ("t", 2, ""))),
    'list{kind="a"}["x\\"" item]': ("e", 0, "list", (("kind", "a"),), (("t", 1, 'x"'), ("e", 2, "item", (), ()))),
    'a[b{c="d"}["e" f[g]] h]': ("e", 0, "a", (), (
        ("e", 1, "b", (("c", "d"),), (("t", 2, "e"), ("e", 3, "f", (), (("e", 4, "g", (), ()),)))),
        ("e", 5, "h", (), ()))),
}


class FormatTest(unittest.TestCase):
    def test_samples(self):
        for text, shape in SAMPLES.items():
            self.assertEqual(format_tree(shape), text)

    def test_numbers_do_not_matter(self):
        self.assertEqual(format_tree(("e", 7, "a", (), (("t", 0, "x"), ("e", 3, "b", (), ())))), 'a["x" b]')

    def test_deep_shapes(self):
        shape = ("t", 2000, "end")
        for number in reversed(range(2000)):
            shape = ("e", number, "a", (), (shape,))
        self.assertEqual(format_tree(shape), "a[" * 2000 + '"end"' + "]" * 2000)


class ParseTest(unittest.TestCase):
    def refused(self, text, place, **more):
        with self.assertRaises(BadText, msg=text) as caught:
            parse_tree(text, **more)
        self.assertEqual(caught.exception.place, place, text)

    def test_samples(self):
        for text, shape in SAMPLES.items():
            self.assertEqual(parse_tree(text), shape)

    def test_first(self):
        self.assertEqual(parse_tree('a["x" b]', 7), ("e", 7, "a", (), (("t", 8, "x"), ("e", 9, "b", (), ()))))
        self.assertEqual(parse_tree('a["x" b]', first=0), parse_tree('a["x" b]'))
        self.assertEqual(parse_tree('"x"', first=10 ** 20), ("t", 10 ** 20, "x"))
        self.assertEqual(numbers_of(parse_tree("a[b[c] d[e f] g]", 3)), [3, 4, 5, 6, 7, 8, 9])

    def test_wrong_first_is_told_ahead_of_the_text(self):
        for first in (-1, True, False, None, "0", 0.0, (0,)):
            for text in ("a", "", "a["):
                with self.assertRaises(InvalidArgument) as caught:
                    parse_tree(text, first)
                self.assertEqual(caught.exception.name, "first")

    def test_examples_of_refusals(self):
        self.refused("a[b]c", 4)
        self.refused('a{x="1" x="2"}', 8)
        self.refused("a[", 2)

    def test_the_empty_text(self):
        self.refused("", 0)

    def test_first_does_not_move_the_place(self):
        self.refused("a[", 2, first=9)

    def test_the_ninth_letter(self):
        self.refused("abcdefghi", 8)
        self.refused("abcdefghijk", 8)
        self.refused("a[abcdefghi]", 10)
        self.refused('a{abcdefghi="1"}', 10)
        self.refused('a{b="1" cccccccccc="2"}', 16)
        self.refused('a{aaaaaaaa="1" aaaaaaaaa="2"}', 23)
        self.assertEqual(parse_tree('a{abcdefgh="1"}')[3], (("abcdefgh", "1"),))

    def test_marks_that_do_not_ascend(self):
        self.refused('a{b="1" a="2"}', 8)
        self.refused('a{bb="1" b="2"}', 9)
        self.refused('a{a="1" c="2" b="3"}', 14)
        self.refused('a[c{b="1" a="2"}]', 10)
        self.refused('a{ab="1" aa', 9)
        self.refused('a{x="1" x', 8)
        self.refused('a{bb="1" b', 9)
        self.refused('a{b="1" aA="2"}', 8)
        self.refused('a{b="1" aaaaaaaaa="2"}', 8)

    def test_too_long_texts(self):
        long = "x" * 20
        self.assertEqual(parse_tree('"' + long + '"'), ("t", 0, long))
        self.refused('"' + long + 'x"', 21)
        self.refused('"' + long, 21)
        self.refused('"' + long + '\\""', 21)
        self.refused('"' + long + '%', 21)
        self.refused('a{m="' + long + 'x"}', 25)
        self.refused('a{m="' + long + '\\\\"}', 25)

    def test_backslashes_are_not_counted(self):
        quotes = '\\"' * 20
        self.assertEqual(parse_tree('"' + quotes + '"'), ("t", 0, '"' * 20))
        self.refused('"' + quotes + 'x"', 41)
        self.refused('"' + quotes + '\\\\"', 41)

    def test_characters_that_are_not_plain(self):
        for sign in ("%", "\n", "\t", "\x00", "\x1f", "\x7f", "\u00e4", "\u20ac"):
            self.refused('"' + sign + '"', 1)
            self.refused('"ab' + sign + '"', 3)
            self.refused('a{m="b' + sign + '"}', 6)
            self.refused('a["b' + sign + '"]', 4)
            self.refused(sign, 0)
            self.refused("a" + sign, 1)

    def test_behind_a_backslash(self):
        for sign in ("n", "a", " ", "'", "/", "%", "\n", "u"):
            self.refused('"\\' + sign + '"', 2)
            self.refused('"x\\' + sign, 3)
            self.refused('a{m="\\' + sign + '"}', 6)
        self.refused('"\\', 2)
        self.refused('"\\"', 3)

    def test_nothing_may_follow(self):
        for text, place in (("a ", 1), ("a b", 1), ('"a"b', 3), ('"a" ', 3), ('"a""b"', 3), ("a]", 1), ("a}", 1),
                            ('a"b"', 1), ('a{m="1"}b', 8), ('a{m="1"}{n="2"}', 8), ("a[b][c]", 4), ('a[b]{m="1"}', 4),
                            ('a[b] ', 4), ("a=", 1), ("a\n", 1)):
            self.refused(text, place)

    def test_wrong_beginnings(self):
        for text in (" a", "A", "1", "[a]", "{", "]", "\\", "=", "'a'", "\u00e4"):
            self.refused(text, 0)

    def test_wrong_places(self):
        for text, place in (("aB", 1), ("a[]", 2), ("a{}", 2), ("a[ b]", 2), ("a[b ]", 4), ("a[b  c]", 4),
                            ("a[b,c]", 3), ("a[b}", 3), ('a{ m="1"}', 2), ('a{m="1" }', 8), ('a{m="1"  n="2"}', 8),
                            ('a{m="1"n="2"}', 7), ('a{m="1"]', 7), ("a{m}", 3), ("a{m=1}", 4), ("a{m =", 3),
                            ('a{="1"}', 2), ('a{"m"="1"}', 2), ('a[b{m="1"', 9), ('a["x"b]', 5), ('a[b"x"]', 3)):
            self.refused(text, place)

    def test_texts_that_end_too_early(self):
        for text in ('a{m="1" n="2"}["x\\"" b[c d] "\\\\"]', 'list{kind="a"}["x\\"" item]', 'a[b[c[d["e"]]]]'):
            parse_tree(text)
            for length in range(len(text)):
                part = text[:length]
                # A name alone, or with its marks, is the text of a tree already.
                if part.isalpha() or part.endswith("}") and "[" not in part:
                    self.assertEqual(format_tree(parse_tree(part)), part)
                else:
                    self.refused(part, length)

    def test_sixty_nodes(self):
        wide = "a[" + " ".join(["b"] * 59) + "]"
        self.assertEqual(numbers_of(parse_tree(wide)), list(range(60)))
        self.refused("a[" + " ".join(["b"] * 60) + "]", 2 + 2 * 59)
        self.refused("a[" + " ".join(["b"] * 59) + ' "x"]', 2 + 2 * 59)
        self.refused("a[" + " ".join(["b"] * 59) + " ", 2 + 2 * 59)
        self.refused("a[" + " ".join(["b"] * 58) + " b[c]]", 2 + 2 * 58 + 2)
        self.refused("a[" * 61, 120)
        self.refused("a[" * 60, 120)
        deep = "a[" * 59 + "a" + "]" * 59
        self.assertEqual(numbers_of(parse_tree(deep)), list(range(60)))
        self.assertEqual(numbers_of(parse_tree(deep, 5)), list(range(5, 65)))
        self.assertEqual(format_tree(parse_tree(deep)), deep)
        self.refused("a[" * 59 + "a b]" + "]" * 58, 120)


class RoundTripTest(unittest.TestCase):
    def shape(self, chance, depth, numbers):
        number = len(numbers)
        numbers.append(number)
        if depth == 0 or chance.random() < 0.3:
            return ("t", number, "".join(chance.choice('ab "\\{}[]=~') for _ in range(chance.randrange(21))))
        names = sorted({"".join(chance.choice("abz") for _ in range(chance.randrange(1, 9))) for _ in range(3)})
        marks = tuple((name, chance.choice(("", "1", '"', "\\", " "))) for name in names[:chance.randrange(4)])
        children = tuple(self.shape(chance, depth - 1, numbers) for _ in range(chance.randrange(4)))
        return ("e", number, names[0], marks, children)

    def test_what_is_written_is_read(self):
        chance = random.Random(27)
        for _ in range(300):
            shape = self.shape(chance, 3, [])
            self.assertTrue(is_shape(shape))
            self.assertEqual(parse_tree(format_tree(shape)), shape)

    def test_a_place_is_never_behind_the_text_and_what_is_ahead_of_it_matters_alone(self):
        chance = random.Random(26)
        refusals = 0
        for _ in range(3000):
            text = list(format_tree(self.shape(chance, 2, [])))
            text[chance.randrange(len(text))] = chance.choice('ab"\\{}[]= %Z')
            text = "".join(text)
            try:
                self.assertEqual(format_tree(parse_tree(text)), text)
            except BadText as error:
                refusals += 1
                self.assertTrue(0 <= error.place <= len(text))
                longer = text[:error.place] + text[error.place:error.place + 1]
                with self.assertRaises(BadText) as caught:
                    parse_tree(longer)
                self.assertEqual(caught.exception.place, error.place)
        self.assertGreater(refusals, 500)


if __name__ == "__main__":
    unittest.main()
