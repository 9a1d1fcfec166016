"""Reading the lines of a worksheet."""

from algebraparts.algebra import read_algebra
from algebraparts.errors import NoText

LONGEST_LINE = 2000
LONGEST_NAME = 8
SMALL_LETTERS = "abcdefghijklmnopqrstuvwxyz"

# What follows each first token: "a" stands for a name, "0" for a number.
FORMS = {
    "matrices": "a00", "triangular": "a00", "product": "aaa", "tensor": "aaa", "opposite": "aa", "quotient": "aa",
    "show": "a", "radical": "a", "structure": "a", "primitive": "a", "isomorphic": "aa", "index": "a", "centre": "a",
    "blocks": "a", "units": "a",
}


def is_line(value):
    """Return True if the value is a line, for every value."""
    if not isinstance(value, str) or len(value) > LONGEST_LINE:
        return False
    return all([" " <= letter <= "~" for letter in value])


def is_word(value, longest):
    """Return True if the value is a string of 1 to `longest` small letters, for every value."""
    if not isinstance(value, str) or not 1 <= len(value) <= longest:
        return False
    return all([letter in SMALL_LETTERS for letter in value])


def is_number(word):
    """Return True if a token is a number from 0 to 99 without leading zeros."""
    return word.isdigit() and (len(word) == 1 or (len(word) == 2 and word[0] != "0"))


def read_token(word, form):
    """Return the name or the number that a token tells."""
    if form == "a" and is_word(word, LONGEST_NAME):
        return word
    if form == "0" and is_number(word):
        return int(word)
    raise NoText(0)


def read_let(line, words):
    """Return the command of a line whose first token is let."""
    if len(words) < 3 or words[2] != "=":
        raise NoText(0)
    name = read_token(words[1], "a")
    return "let", name, read_algebra(line.partition("=")[2].strip(" "))


def read_line(line):
    """Return the command of a line, a tuple; raise NoText(0) if it has none, for every value."""
    if not is_line(line):
        raise NoText(0)
    words = [word for word in line.split(" ") if word != ""]
    if words == [] or line.startswith("#"):
        return ("empty",)
    if words[0] == "let":
        return read_let(line, words)
    form = FORMS.get(words[0], "")
    # Each form has something behind the first token, so an unknown one never fits.
    if form == "" or len(words) - 1 != len(form):
        raise NoText(0)
    return (words[0], *[read_token(word, kind) for word, kind in zip(words[1:], form)])
