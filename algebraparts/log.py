"""The written forms of plain data and of lists of entries."""

from algebraparts.errors import Malformed, NoText
from algebraparts.replies import Reply, defined, is_right
from algebraparts.sheet import is_word
from algebraparts.whole import is_integer

LONGEST_LABEL = 12
DEEPEST = 20
MOST_DIGITS = 4000
# No integer of at most 4000 digits has more bits. Python itself writes none of more than 4300 digits.
MOST_BITS = 13288
# What the three lines of an entry begin with.
MARKS = ("> ", "= ", "# ")


def is_label(value):
    """Return True if the value is a label, for every value."""
    return is_word(value, LONGEST_LABEL)


def written_data(data, deep):
    """Return the written form of plain data that are nested at most `deep` deep."""
    if is_integer(data) and data.bit_length() <= MOST_BITS:
        return str(data)
    if is_label(data):
        return data
    if not isinstance(data, tuple) or deep == 0:
        raise Malformed("these are no plain data")
    return "(" + " ".join([written_data(item, deep - 1) for item in data]) + ")"


def write_data(data):
    """Return the written form of plain data."""
    return written_data(data, DEEPEST)


def read_word(word):
    """Return the integer or the label that a word tells; the integer is perhaps not written as it should."""
    if is_label(word):
        return word
    figures = word[1:] if word.startswith("-") else word
    if not figures.isascii() or not figures.isdigit() or len(figures) > MOST_DIGITS:
        raise NoText(0)
    return int(word)


def read_loosely(text):
    """Return the plain data that a text tells, with spaces anywhere around its words."""
    rows = [[]]
    # A parenthesis that is too deep, or closes nothing, is read as a word, and is none.
    for word in text.replace("(", " ( ").replace(")", " ) ").split(" "):
        if word == "(" and len(rows) <= DEEPEST:
            rows.append([])
        elif word == ")" and len(rows) > 1:
            last = rows.pop()
            rows[-1].append(tuple(last))
        elif word != "":
            rows[-1].append(read_word(word))
    if len(rows) != 1 or len(rows[0]) != 1:
        raise NoText(0)
    return rows[0][0]


def read_data(text):
    """Return the plain data with this written form; raise NoText(0) if there are none, for every value."""
    if not isinstance(text, str):
        raise NoText(0)
    data = read_loosely(text)
    # There is one written form, so spaces and zeros at other places are seen here.
    if write_data(data) != text:
        raise NoText(0)
    return data


def is_text(value):
    """Return True if the value is a string without a line feed, for every value."""
    return isinstance(value, str) and "\n" not in value


def is_entry(value):
    """Return True if the value is a pair of a line and a reply that can be written, but for its data."""
    if not isinstance(value, tuple) or len(value) != 2 or not isinstance(value[1], Reply):
        return False
    line, reply = value
    return is_text(line) and is_label(reply.kind) and is_text(reply.text) and isinstance(reply.data, tuple)


def written_entry(entry):
    """Return the three lines of an entry."""
    if not is_entry(entry):
        raise Malformed("this is no entry")
    line, reply = entry
    return f"> {line}\n= {reply.kind} {reply.text}\n# {write_data(reply.data)}\n"


def write_log(entries):
    """Return the written form of a list of entries."""
    return "".join([written_entry(entry) for entry in entries])


def read_pair(row):
    """Return the kind and the text of a reply, which a line tells, or None."""
    kind, gap, text = row.partition(" ")
    if gap == "" or not is_label(kind):
        return None
    return kind, text


def read_tuple(row):
    """Return the tuple of plain data that a line tells, or None."""
    try:
        data = read_data(row)
    except NoText:
        return None
    return data if isinstance(data, tuple) else None


def read_row(row, place):
    """Return what the line at a place, 0, 1 or 2, of an entry tells, or None."""
    if not row.startswith(MARKS[place]):
        return None
    if place == 0:
        return row[2:]
    if place == 1:
        return read_pair(row[2:])
    return read_tuple(row[2:])


def read_log(text):
    """Return the list of the entries with this written form; raise NoText if there is none, for every value."""
    if not isinstance(text, str):
        raise NoText(0)
    *rows, last = text.split("\n")
    parts = []
    for at, row in enumerate(rows):
        part = read_row(row, at % 3)
        if part is None:
            raise NoText(at)
        parts.append(part)
    if last != "" or len(rows) % 3 != 0:
        raise NoText(len(rows))
    triples = [parts[k:k + 3] for k in range(0, len(parts), 3)]
    return [(line, Reply(kind, words, data)) for line, (kind, words), data in triples]


def first_wrong(entries):
    """Return the index of the first entry that is not right, beginning without definitions, or -1."""
    names = {}
    for at, entry in enumerate(entries):
        if not is_right(names, entry):
            return at
        pair = defined(names, entry[0])
        if pair is not None:
            names[pair[0]] = pair[1]
    return -1
