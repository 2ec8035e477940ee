"""The texts of queries: to read them."""

from lookon.errors import BadQuery
from lookon.names import is_letter, is_name
from lookon.queries import is_test

MOST_OPEN = 12

# The signs of steps, each with the word of the test that it means.
STEPS = {">": "under", "+": "next", "~": "behind"}


def parse_query(text):
    """Return the test of a text."""
    reader = QueryReader(_tokens(text))
    test = reader.read_query()
    # Behind the last token stands the empty one.
    reader.skip("")
    if not is_test(test):
        raise BadQuery(len(text))
    return test


def _tokens(text):
    """Return the list of the places and the tokens of a text, and behind them its length and the empty token."""
    tokens = []
    at = 0
    while at < len(text):
        end = _end_of_token(text, at)
        tokens.append((at, text[at:end]))
        at = end
    return tokens + [(at, "")]


def _end_of_token(text, at):
    """Return the place behind the token that begins here."""
    if text[at] == '"':
        # Without a second quote the first one is a token alone, and no string.
        return max(text.find('"', at + 1), at) + 1
    end = at + 1
    if is_letter(text[at]):
        while is_letter(text[end:end + 1]):
            end += 1
    elif text[at] == " ":
        while text[end:end + 1] == " ":
            end += 1
    return end


def _together(word, tests):
    """Return what several tests, a single one or none mean."""
    if not tests:
        return ("any",)
    if len(tests) == 1:
        return tests[0]
    return (word, tuple(tests))


class QueryReader:
    """Reads a query from its tokens, from the first one on."""

    def __init__(self, tokens):
        self.tokens = tokens
        self.at = 0
        self.opened = 0

    def token(self):
        """Return the token that stands here, or the empty one at the end."""
        return self.tokens[self.at][1]

    def refuse(self):
        """Refuse the token that stands here."""
        raise BadQuery(self.tokens[self.at][0])

    def skip(self, token):
        """Go on behind this token, which must stand here."""
        if self.token() != token:
            self.refuse()
        self.at += 1

    def skip_spaces(self):
        """Go on behind a run of spaces, and return whether one stands here."""
        if self.token()[:1] != " ":
            return False
        self.at += 1
        return True

    def read_query(self):
        """Read a query, and return its test."""
        tests = [self.read_chain()]
        while self.token() == "|":
            self.at += 1
            tests.append(self.read_chain())
        return _together("one", tests)

    def read_chain(self):
        """Read a chain with the spaces around it, and return its test."""
        self.skip_spaces()
        test = _together("both", self.read_compound())
        word = self.read_step()
        while word is not None:
            test = _together("both", self.read_compound() + [(word, test)])
            word = self.read_step()
        return test

    def read_step(self):
        """Read a step, and return the word of its test; or the spaces behind a chain, and return None."""
        spaced = self.skip_spaces()
        token = self.token()
        if token in STEPS:
            self.at += 1
            self.skip_spaces()
            return STEPS[token]
        return "in" if spaced and token not in ("|", ")", "") else None

    def read_compound(self):
        """Read a compound, and return the list of the tests of its parts."""
        tests = []
        token = self.token()
        if token == "*":
            self.at += 1
        elif is_letter(token[:1]):
            tests.append(("name", self.read_name()))
        elif token not in ("[", ":"):
            self.refuse()
        while self.token() in ("[", ":"):
            tests.append(self.read_further())
        return tests

    def read_further(self):
        """Read a further part of a compound, and return its test."""
        if self.token() == "[":
            return self.read_mark()
        self.skip(":")
        word = self.token()
        if word not in ("first", "last", "empty", "text", "not", "has", "over"):
            self.refuse()
        self.at += 1
        if word in ("first", "last", "empty"):
            return (word,)
        return (word, self.read_inner(word))

    def read_mark(self):
        """Read a mark with its brackets, and return its test."""
        self.skip("[")
        test = ("mark", self.read_name())
        if self.token() == "=":
            self.at += 1
            test = ("value", test[1], self.read_string())
        self.skip("]")
        return test

    def read_inner(self, word):
        """Read what stands in brackets behind a word, and return the text or the test."""
        if self.opened == MOST_OPEN:
            self.refuse()
        self.skip("(")
        self.opened += 1
        inner = self.read_string() if word == "text" else self.read_query()
        self.skip(")")
        self.opened -= 1
        return inner

    def read_name(self):
        """Read a name."""
        name = self.token()
        if not is_name(name):
            self.refuse()
        self.at += 1
        return name

    def read_string(self):
        """Read a string, and return it without its quotes."""
        token = self.token()
        if token[:1] != '"' or len(token) < 2:
            self.refuse()
        self.at += 1
        return token[1:-1]
