"""Names, plain texts and the numbers of nodes."""

MOST_NODES = 60
MOST_LETTERS = 8
MOST_SIGNS = 20

# The code of the percent sign, which no plain text has.
PERCENT = 37


def is_letter(sign):
    """Return whether a text of one character, or of none, is a letter from a to z."""
    return "a" <= sign <= "z"


def is_plain_sign(sign):
    """Return whether a text of one character, or of none, is a character of plain texts."""
    return " " <= sign <= "~" and ord(sign) != PERCENT


def is_name(value):
    """Return whether anything is a name."""
    if not isinstance(value, str):
        return False
    return 1 <= len(value) <= MOST_LETTERS and all([is_letter(sign) for sign in value])


def is_plain(value):
    """Return whether anything is a plain text."""
    if not isinstance(value, str):
        return False
    return len(value) <= MOST_SIGNS and all([is_plain_sign(sign) for sign in value])


def is_number(value):
    """Return whether anything is the number of a node."""
    return isinstance(value, int) and not isinstance(value, bool) and value >= 0


def are_ascending(names):
    """Return whether the items of a list or tuple ascend strictly."""
    return all([low < high for low, high in zip(names, names[1:])])
