"""The texts of trees: to write them, and to read them."""

from lookon.errors import BadText, InvalidArgument
from lookon.names import MOST_LETTERS, MOST_NODES, MOST_SIGNS, is_letter, is_name, is_number, is_plain_sign
from lookon.shapes import children_of, parts_of


def format_tree(shape):
    """Return the text of a shape."""
    texts = {}
    # Backwards each node comes behind its children, so their texts are there.
    for part in reversed(parts_of(shape)):
        if part[0] == "t":
            texts[part[1]] = _quoted(part[2])
        else:
            texts[part[1]] = _element_text(part, [texts[child[1]] for child in children_of(part)])
    return texts[shape[1]]


def _quoted(text):
    """Return a plain text in quotes."""
    return '"' + text.replace("\\", "\\\\").replace('"', '\\"') + '"'


def _element_text(shape, children):
    """Return the text of an element whose children have these texts."""
    text = shape[2]
    if shape[3]:
        text += "{" + " ".join([name + "=" + _quoted(value) for name, value in shape[3]]) + "}"
    if children:
        text += "[" + " ".join(children) + "]"
    return text


def parse_tree(text, first=0):
    """Return the shape of a text, its nodes numbered from `first` on."""
    if not is_number(first):
        raise InvalidArgument("first")
    reader = Reader(text, first)
    shape = reader.read_tree()
    if reader.at < len(text):
        raise BadText(reader.at)
    return shape


class Reader:
    """Reads the text of a tree, from its beginning on."""

    def __init__(self, source, first):
        self.source = source
        self.first = first
        self.at = 0
        self.made = 0

    def sign(self):
        """Return the character at this place, or the empty text at the end."""
        return self.source[self.at:self.at + 1]

    def skip(self, sign):
        """Go on behind this character, which must stand here."""
        if self.sign() != sign:
            raise BadText(self.at)
        self.at += 1

    def read_tree(self):
        """Read a node with all below it."""
        if self.made == MOST_NODES:
            raise BadText(self.at)
        number = self.first + self.made
        self.made += 1
        if self.sign() == '"':
            return ("t", number, self.read_quoted())
        name = self.read_name()
        marks = self.read_marks() if self.sign() == "{" else ()
        children = self.read_children() if self.sign() == "[" else ()
        return ("e", number, name, marks, children)

    def letters(self):
        """Return the letters that stand here, one behind the other."""
        end = self.at
        while is_letter(self.source[end:end + 1]):
            end += 1
        return self.source[self.at:end]

    def read_name(self):
        """Read a name."""
        name = self.letters()
        if not is_name(name):
            raise BadText(self.at + min(len(name), MOST_LETTERS))
        self.at += len(name)
        return name

    def read_marks(self):
        """Read the marks of an element, with their brackets."""
        self.skip("{")
        marks = [self.read_mark("")]
        while self.sign() == " ":
            self.at += 1
            marks.append(self.read_mark(marks[-1][0]))
        self.skip("}")
        return tuple(marks)

    def read_mark(self, ahead):
        """Read a mark, behind the mark with the name `ahead`."""
        # All letters count here, so that of two wrong characters the first one is told.
        if self.letters() <= ahead:
            raise BadText(self.at)
        name = self.read_name()
        self.skip("=")
        return (name, self.read_quoted())

    def read_children(self):
        """Read the children of an element, with their brackets."""
        self.skip("[")
        children = [self.read_tree()]
        while self.sign() == " ":
            self.at += 1
            children.append(self.read_tree())
        self.skip("]")
        return tuple(children)

    def read_quoted(self):
        """Read a plain text in quotes."""
        self.skip('"')
        signs = []
        while self.sign() != '"':
            if len(signs) == MOST_SIGNS:
                raise BadText(self.at)
            signs.append(self.read_sign())
        self.skip('"')
        return "".join(signs)

    def read_sign(self):
        """Read a character within quotes, with the backslash that belongs to it."""
        if self.sign() == "\\":
            self.at += 1
            if self.sign() not in ("\\", '"'):
                raise BadText(self.at)
        sign = self.sign()
        if not is_plain_sign(sign):
            raise BadText(self.at)
        self.at += 1
        return sign
