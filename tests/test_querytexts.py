import random
import unittest

from lookon.errors import BadQuery
from lookon.queries import is_test
from lookon.querytexts import parse_query

ANY = ("any",)
A, B, C = ("name", "a"), ("name", "b"), ("name", "c")
WORDS = ("first", "last", "empty", "text", "not", "has", "over")

# The grammar of point 14 by tokens: n a name, s a string, _ a run of spaces, $ nothing; a name that begins with a
# letter A to Z is that of a rule.
GRAMMAR = {
    "Query": ["Gap Chain Gap More"], "More": ["$", "| Gap Chain Gap More"], "Gap": ["$", "_"],
    "Chain": ["Compound Rest"], "Rest": ["$", "Step Compound Rest"], "Step": ["Gap Sign Gap", "_"], "Sign": [">", "+", "~"],
    "Compound": ["* Furthers", "n Furthers", "Further Furthers"], "Furthers": ["$", "Further Furthers"],
    "Further": ["[ n ]", "[ n = s ]", ": first", ": last", ": empty", ": text ( s )", ": Deep ( Query )"],
    "Deep": ["not", "has", "over"],
}
RULES = {name: [() if way == "$" else tuple(way.split()) for way in ways] for name, ways in GRAMMAR.items()}


def tokens_of(text):
    """The places and the tokens of a text, as point 14 tells them."""
    tokens, at = [], 0
    while at < len(text):
        end = at + 1
        if text[at] == '"' and '"' in text[at + 1:]:
            end = text.index('"', at + 1) + 1
        elif text[at] == " " or "a" <= text[at] <= "z":
            while end < len(text) and (text[end] == " " if text[at] == " " else "a" <= text[end] <= "z"):
                end += 1
        tokens.append((at, text[at:end]))
        at = end
    return tokens


def stands_for(token, sign):
    """Whether a token may stand for a sign of the grammar."""
    if sign == "n":
        return token.isalpha() and token.isascii() and token.islower() and len(token) <= 8
    if sign == "s":
        return token[0] == '"' and len(token) > 1
    return token[0] == " " if sign == "_" else token == sign


def expected_place(text):
    """The place at which a text is refused by the grammar, or None: all rules are followed at once (Earley's way)."""
    def closed(states):
        left = list(states)
        while left:
            name, way, at, start = left.pop()
            if at == len(way):
                new = [(n, w, k + 1, s) for n, w, k, s in list(rows[start]) if k < len(w) and w[k] == name]
            elif way[at] in RULES:
                new = [(way[at], deeper, 0, len(rows) - 1) for deeper in RULES[way[at]]]
                # What is nothing at all is behind at once.
                new += [(name, way, at + 1, start)] if () in RULES[way[at]] else []
            else:
                new = []
            left += [state for state in new if state not in states]
            states.update(new)
    rows, opened = [{("Start", ("Query",), 0, 0)}], 0
    closed(rows[0])
    for place, token in tokens_of(text):
        opened += {"(": 1, ")": -1}.get(token, 0)
        row = {(n, w, k + 1, s) for n, w, k, s in rows[-1] if k < len(w) and w[k] not in RULES and stands_for(token, w[k])}
        if not row or opened > 12:
            return place
        rows.append(row)
        closed(row)
    return None if ("Start", ("Query",), 1, 0) in rows[-1] else len(text)


class QueryCase(unittest.TestCase):
    def refused(self, place, text):
        with self.assertRaises(BadQuery, msg=text) as caught:
            parse_query(text)
        self.assertIs(type(caught.exception), BadQuery)
        self.assertEqual(caught.exception.place, place, text)

    def check(self, samples):
        for text, test in samples.items():
            self.assertEqual(parse_query(text), test, text)
            self.assertTrue(is_test(test))


class MeaningTest(QueryCase):
    def test_the_example(self):
        self.check({'list > row[on="1"]:not(:first) b | a': ("one", (("both", (("name", "b"), ("in", ("both", (
            ("name", "row"), ("value", "on", "1"), ("not", ("first",)), ("under", ("name", "list"))))))), A))})

    def test_compounds(self):
        self.check({
            "a": A, "abcdefgh": ("name", "abcdefgh"), "*": ANY, "[m]": ("mark", "m"), '[m="v"]': ("value", "m", "v"),
            ":first": ("first",), ":last": ("last",), ":empty": ("empty",), ':text("s")': ("text", "s"),
            ":not(a)": ("not", A), ":has(a)": ("has", A), ":over(a)": ("over", A), "*[m]": ("mark", "m"),
            "*:first:last": ("both", (("first",), ("last",))), "a[m]": ("both", (A, ("mark", "m"))),
            '[m="v"][n]': ("both", (("value", "m", "v"), ("mark", "n"))),
            'a:empty[m][m=""]': ("both", (A, ("empty",), ("mark", "m"), ("value", "m", ""))),
            '*[a][b][c][d]': ("both", (("mark", "a"), ("mark", "b"), ("mark", "c"), ("mark", "d"))),
            "zebra": ("name", "zebra"), "az": ("name", "az"), "azb": ("name", "azb"), "zz[zz]": (
                "both", (("name", "zz"), ("mark", "zz"))),
            "first": ("name", "first"), "not": ("name", "not"), "[text]": ("mark", "text"), "a[m][m]": (
                "both", (A, ("mark", "m"), ("mark", "m")))})

    def test_steps(self):
        self.check({
            "a > b": ("both", (B, ("under", A))), "a + b": ("both", (B, ("next", A))),
            "a ~ b": ("both", (B, ("behind", A))), "a b": ("both", (B, ("in", A))),
            "a > *": ("under", A), "* > *": ("under", ANY), "* *": ("in", ANY), "*+*": ("next", ANY), "*~*": ("behind", ANY),
            "a [m]": ("both", (("mark", "m"), ("in", A))), "a :first": ("both", (("first",), ("in", A))),
            "a[m] > b:first": ("both", (B, ("first",), ("under", ("both", (A, ("mark", "m")))))),
            "a > b c": ("both", (C, ("in", ("both", (B, ("under", A)))))),
            "a b > c": ("both", (C, ("under", ("both", (B, ("in", A)))))),
            "a + b ~ c": ("both", (C, ("behind", ("both", (B, ("next", A)))))),
            "* > * + * ~ * *": ("in", ("behind", ("next", ("under", ANY))))})

    def test_several_chains(self):
        self.check({
            "a | b": ("one", (A, B)), "a|b|c": ("one", (A, B, C)), "a | a": ("one", (A, A)),
            "* | * | * | *": ("one", (ANY,) * 4), "a b | c": ("one", (("both", (B, ("in", A))), C)),
            ":not(a | b) | :has(c|*)": ("one", (("not", ("one", (A, B))), ("has", ("one", (C, ANY)))))})

    def test_spaces(self):
        for gap in ("", " ", "   "):
            chains = ("one", (A, B))
            self.check({f"{gap}a{gap}": A, f"a{gap}|{gap}b": chains, f"{gap}a{gap}|{gap}b{gap}": chains,
                        f":not({gap}a{gap})": ("not", A), f":has({gap}a{gap}|{gap}b{gap}){gap}": ("has", chains),
                        f":over({gap}*{gap})": ("over", ANY)})
            for sign, word in ((">", "under"), ("+", "next"), ("~", "behind")):
                self.check({f"a{gap}{sign}{gap}b": ("both", (B, (word, A))), f"a {sign}{gap}b": ("both", (B, (word, A))),
                            f"{gap}[m]{gap}{sign} *{gap}": (word, ("mark", "m"))})
        self.check({"a    b": ("both", (B, ("in", A))), "a  |b": ("one", (A, B)), "a:not(  b )  c": (
            "both", (C, ("in", ("both", (A, ("not", B))))))})

    def test_nested(self):
        self.check({
            ':not(:has(:over(:text("s"))))': ("not", ("has", ("over", ("text", "s")))),
            ":not(a > b)": ("not", ("both", (B, ("under", A)))),
            "a:has(b:not(c))": ("both", (A, ("has", ("both", (B, ("not", C)))))),
            ":not(:first):not(:last)": ("both", (("not", ("first",)), ("not", ("last",)))),
            ":not(:not(:not(:not(:not(a)))))": ("not", ("not", ("not", ("not", ("not", A))))),
            ":has(:not(a) b)": ("has", ("both", (B, ("in", ("not", A)))))})

    def test_strings(self):
        for text in ("", " ", "   ", "a", "a b", "()[]:=|>+~*", ":not(a)", "'", "\\", "A1!", "x" * 20, " | "):
            self.check({f'[m="{text}"]': ("value", "m", text), f':text("{text}")': ("text", text),
                        f'a:text("{text}")[m="{text}"] b': ("both", (B, ("in", (
                            "both", (A, ("text", text), ("value", "m", text))))))})

    def test_the_deepest(self):
        self.check({"a * * * * *": ("in", ("in", ("in", ("in", ("in", A)))))})
        self.check({"a b > c": ("both", (C, ("under", ("both", (B, ("in", A))))))})


class RefusedTest(QueryCase):
    def test_the_examples(self):
        self.refused(3, "a >")
        self.refused(2, "a:frst")
        self.refused(3, "a b)")

    def test_more_tokens_are_wanted(self):
        for text in ("", " ", "   ", "a >", "a > ", "a +", "a~", "a|", "a | ", "[", "[m", '[m=', '[m="v"', ":", "a:", ":not",
                     ":not(", ":not( ", ":not(a", ":not(a ", ":not(a >", ":not(a|", ":text", ":text(", ':text("s"', "*[",
                     "a b :", ":has(:not(a)", ":over(:text("):
            self.refused(len(text), text)

    def test_at_the_beginning(self):
        for sign in ("]", "=", "(", ")", "|", ">", "+", "~", '"s"', "abcdefghi"):
            for ahead in ("", "  ", "a|", "a | ", "a>", "a ~ ", ":not(", ":has( ", "a:over(b | "):
                self.refused(len(ahead), ahead + sign + " a")

    def test_behind_a_compound(self):
        for ahead in ("a", "*", "[m]", '[m="v"]', ":first", ':text("s")', ":not(a)", "a | b", "a > b[m]"):
            for sign in ("]", "=", "(", ")", '"s"', "*") + (() if ahead[-1].isalpha() else ("b",)):
                self.refused(len(ahead), ahead + sign)
            for sign in ("]", "=", "(", ")", '"s"'):
                self.refused(len(ahead) + 2, ahead + "  " + sign)
            for sign in ("]", "=", "(", '"s"', "*"):
                self.refused(5 + len(ahead), ":not(" + ahead + sign)

    def test_behind_a_step(self):
        for step in (">", " +", "~ ", "  >  "):
            for sign in (">", "+", "~", "|", ")", "(", "=", "]", '"s"'):
                self.refused(1 + len(step), "a" + step + sign)
                self.refused(6 + len(step), ":has(a" + step + sign)

    def test_within_a_mark(self):
        for sign in (" m", "]", "=", "*", '"v"', "[", ":", "(", "abcdefghi"):
            self.refused(1, "[" + sign)
            self.refused(2, "a[" + sign + "]")
        for sign in (" ]", " =", "[", "*", ":", "(", ")", "|", '"v"', ">"):
            self.refused(2, "[m" + sign)
        for sign in (' "v"', "v", "]", "=", "*", "("):
            self.refused(3, "[m=" + sign)
        for sign in (" ]", "[", "v", "=", '"v"', ")"):
            self.refused(6, '[m="v"' + sign)

    def test_words(self):
        for sign in (" first", "*", "[m]", ":", "(", '"s"', "frst", "firsts", "name", "is", "under", "in", "next", "behind",
                     "any", "one", "both", "mark", "value", "f", "abcdefghi"):
            self.refused(1, ":" + sign)
            self.refused(3, "a :" + sign)
        for word in ("text", "not", "has", "over"):
            for sign in (" (", "[", ":", "*", ")", '"s"', "|"):
                self.refused(1 + len(word), ":" + word + sign)
        for word in ("first", "last", "empty"):
            self.refused(1 + len(word), ":" + word + "(")
            self.refused(1 + len(word), ":" + word + "()")

    def test_within_brackets(self):
        for sign in (' "s"', "s", ")", "*", "(", ":"):
            self.refused(6, ":text(" + sign)
        for sign in (" )", "]", "|", '"s"', "s"):
            self.refused(9, ':text("s"' + sign)
        for sign in (")", " )", "|", " |"):
            self.refused(4 + len(sign), ":not(" + sign)
        self.refused(7, ":not(a " + "]")
        self.refused(7, ":not(a))")
        self.refused(8, ":not(a) )")

    def test_names(self):
        self.refused(0, "abcdefghi")
        self.refused(0, "a" * 30)
        self.refused(4, "a > abcdefghi")
        self.refused(2, "a abcdefghi")
        self.refused(1, "[abcdefghi]")
        self.refused(2, "a[abcdefghi")
        self.refused(5, ":not(abcdefghi)")

    def test_open_brackets(self):
        for word in ("not", "has", "over"):
            deep = f":{word}(" * 12
            self.refused(len(deep) + 13, deep + "a" + ")" * 12)  # a query by the grammar, but too deep to be a test
            self.refused(len(deep), deep)
            self.refused(len(deep) + 1 + len(word), deep + f":{word}(")
            self.refused(len(deep) + 1 + len(word), deep + f":{word}(a" + ")" * 13)
            self.refused(len(deep) + 5, deep + ':text("s")')
            self.refused(len(deep) + 5, deep + ":text")
        deep = ":not(" * 11
        self.refused(len(deep) + 22, deep + ':text("s")' + ")" * 11 + "|")
        self.refused(len(deep) + 10, deep + ":not(:text(" + '"s")')

    def test_closed_brackets_do_not_count(self):
        for ahead in (":not(a)", ':text("s"):has(a)', ":not(:over(a)) | "):
            deep = ahead + ":not(" * 12
            self.refused(len(deep) + 4, deep + ":not(a")
            self.refused(len(deep) + 13, deep + "a" + ")" * 12)
        self.check({"|".join([":not(a)"] * 4): ("one", (("not", A),) * 4)})
        text = "|".join([":not(a:not(b):not(c))"] * 20)
        self.refused(len(text), text)
        text = "".join([':text("s")'] * 20)
        self.refused(len(text), text)

    def test_a_quote_alone(self):
        self.refused(0, '"')
        self.refused(3, '[m="v]')
        self.refused(6, ':text("')
        self.refused(6, ':text("s)')
        self.refused(1, 'a"')
        self.refused(10, ':text("s")"')

    def test_characters_that_no_token_has(self):
        for sign in ("A", "Z", "\u00e9", "\u00df", "0", "9", "_", "-", ".", ",", "#", "%", "'", "\\", "/", "{", "}", "<", "^",
                     "$", "@", "!", "?", "&", ";", "`", "\t", "\n", "\r", "\x00", "\u00a0", "\u2003", "\U0001f600"):
            self.refused(0, sign)
            self.refused(0, sign + "a")
            self.refused(1, "a" + sign)
            self.refused(2, "a " + sign + " b")
            self.refused(3, "a >" + sign)
            self.refused(1, "[" + sign + "]")
            self.refused(2, "[m" + sign + "]")
            self.refused(3, "[m=" + sign)
            self.refused(1, ":" + sign)
            self.refused(4, ":not" + sign)
            self.refused(5, ":not(" + sign)

    def test_a_letter_too_much_behind_a_name_that_is_too_long(self):
        self.refused(0, "abcdefghi1")
        self.refused(8, "abcdefgh1")

    def test_too_deep(self):
        for text in ("a * * * * * *", "a b c d", "a > b > c > d", ":not(:not(:not(:not(:not(:not(a))))))", "a " * 3000 + "a",
                     ":not(a b c)" + " | a > b > c:not(:not(d))", ":has(a b c) d"):
            self.refused(len(text), text)
            self.refused(len(text) + 2, "  " + text)
            self.refused(len(text) + 2, text + "  ")

    def test_too_many_parts(self):
        for text in ("a|b|c|d|e", "a[a][b][c][d]", "[a][b][c][d][e]", "a > b[a][b][c]", ":not(a | b|c|d|e)", "|".join("a" * 300),
                     "* > *[a][b][c][d]"):
            self.refused(len(text), text)
        self.check({"a|b|c|d": ("one", (A, B, C, ("name", "d"))), "*[a][b][c][d] > *:first": (
            "both", (("first",), ("under", ("both", tuple(("mark", name) for name in "abcd")))))})

    def test_strings_that_are_no_plain_texts(self):
        for text in ("x" * 21, "%", "a%b", "\n", "\t", "\x7f", "\u00e9", "\U0001f600"):
            for query in (f'[m="{text}"]', f':text("{text}")', f'a | :not(b:text("{text}") c)', f'[m="{text}"] '):
                self.refused(len(query), query)
            # What cannot stand comes ahead of what the text means.
            self.refused(len(text) + 8, f':text("{text}"]')

    def test_the_grammar_comes_ahead_of_what_it_means(self):
        self.refused(10, "a|b|c|d|e|")
        self.refused(10, "a|b|c|d|e|)")
        self.refused(15, "a * * * * * * *)")


class GrammarTest(QueryCase):
    """Against the grammar itself, followed in all ways at once."""

    PIECES = ("a", "b", "abcdefgh", "abcdefghi", "*", " ", "  ", "[", "]", "=", ":", "(", ")", "|", ">", "+", "~", '"s"', '""',
              '"', "A", "1", "[m]", '[m="v"]', ":first", ":last", ":empty", ':text("s")', ":not(", ":has(", ":over(", ":no",
              ":text(", " > ", " | ", "a b", ")", ")")

    def agree(self, text):
        place = expected_place(text)
        if place is not None:
            self.refused(place, text)
            return
        try:
            self.assertTrue(is_test(parse_query(text)), text)
        except BadQuery as error:
            self.assertEqual(error.place, len(text), text)

    def test_each_sign_behind_each_beginning(self):
        for text in ("", " ", "a", "a ", "*", "[", "[m", "[m=", '[m="v"', "[m]", ":", ":first", ":text", ":text(", ':text("s"',
                     ':text("s")', ":not", ":not(", ":not(a", ":not(a ", ":not(a)", "a>", "a |", "a > ", ":not(a|", ":has(a~"):
            for piece in self.PIECES:
                self.agree(text + piece)
                self.agree(text + piece + ")")
                self.agree(text + piece + "a")

    def test_by_chance(self):
        chance = random.Random(15)
        for _ in range(1500):
            text = ""
            for _ in range(chance.randint(1, 12)):
                pieces = chance.sample(self.PIECES, 3)
                # Rather a piece that may stand there, so that the texts get long.
                fitting = [piece for piece in pieces if expected_place(text + piece) in (None, len(text + piece))]
                text += (fitting or pieces)[0] if chance.random() < 0.97 else pieces[0]
            self.agree(text)


if __name__ == "__main__":
    unittest.main()
