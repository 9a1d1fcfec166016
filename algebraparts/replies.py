"""The replies to the lines of a worksheet, and the check of a reply by its data."""

from algebraparts.build import direct_product, matrix_algebra, opposite, tensor_product, triangular_algebra
from algebraparts.centre import centre
from algebraparts.checker import takes_map, takes_primitive, takes_radical
from algebraparts.errors import Fault, Malformed, NoText, Refused
from algebraparts.ideals import quotient
from algebraparts.idempotents import block_idempotents
from algebraparts.papers import map_paper, primitive_paper, radical_paper
from algebraparts.radical import radical, radical_index
from algebraparts.sheet import read_line
from algebraparts.structure import unit_count

DEFINING = ("let", "matrices", "triangular", "product", "tensor", "opposite", "quotient")
# The kinds of the replies with a paper.
KINDS = {"radical": "number", "structure": "structure", "primitive": "number", "isomorphic": "isomorphic"}


class Reply:
    """A reply: its kind, its text and its data."""

    def __init__(self, kind, text="", data=()):
        self.kind = kind
        self.text = text
        self.data = data

    def __eq__(self, other):
        if not isinstance(other, Reply) or self.kind != other.kind:
            return False
        return self.text == other.text and self.data == other.data


def looked_up(names, name):
    """Return the algebra of a name."""
    if name not in names:
        raise Refused("name")
    return names[name]


def made(names, command):
    """Return the algebra that a command defines."""
    word = command[0]
    if word == "let":
        return command[2]
    if word == "matrices":
        return matrix_algebra(command[2], command[3])
    if word == "triangular":
        return triangular_algebra(command[2], command[3])
    a = looked_up(names, command[2])
    if word == "opposite":
        return opposite(a)
    if word == "quotient":
        return quotient(a, radical(a))
    b = looked_up(names, command[3])
    if word == "product":
        return direct_product(a, b)
    return tensor_product(a, b)


def pairs_of(paper):
    """Return the list of the pairs (m, d) of the blocks of a paper of the radical, ascending."""
    return sorted([(len(table), len(f) - 1) for table, _, f in paper[3]])


def answer_of(word, paper):
    """Return the text of the answer that a right paper of one algebra shows."""
    if word == "structure":
        return "; ".join([f"{m} {d}" for m, d in pairs_of(paper)])
    # Behind the first item stands the space, or the tuple of the parts.
    return str(len(paper[1]))


def paper_for(word, a):
    """Return the paper with which a line about one algebra is answered."""
    if word == "primitive":
        return primitive_paper(a)
    return radical_paper(a)


def isomorphic_reply(a, b):
    """Return the reply that tells if two algebras are isomorphic."""
    paper = map_paper(a, b)
    if paper is not None:
        return Reply("isomorphic", "yes", paper)
    return Reply("isomorphic", "no", ("unlike", radical_paper(a), radical_paper(b)))


def number_of(word, a):
    """Return the number that a line without a paper asks for."""
    if word == "index":
        return radical_index(a)
    if word == "centre":
        return len(centre(a))
    if word == "blocks":
        return len(block_idempotents(a))
    return unit_count(a)


def answer(names, command):
    """Return the reply to a command that asks something."""
    word = command[0]
    a = looked_up(names, command[1])
    if word == "isomorphic":
        return isomorphic_reply(a, looked_up(names, command[2]))
    if word == "show":
        return Reply("algebra", str(a))
    if word in KINDS:
        paper = paper_for(word, a)
        return Reply(KINDS[word], answer_of(word, paper), paper)
    return Reply("number", str(number_of(word, a)))


def carried_out(names, command):
    """Return the reply to a command; raise what its functions raise."""
    if command[0] == "empty":
        return Reply("done")
    if command[0] in DEFINING:
        return Reply("algebra", str(made(names, command)))
    return answer(names, command)


def reply_to(names, line):
    """Return the reply to a line over a dict from names to algebras, for every value of `line`."""
    try:
        return carried_out(names, read_line(line))
    except NoText:
        return Reply("error", "text")
    except Malformed:
        return Reply("error", "malformed")
    except Refused as e:
        return Reply("error", f"refused {e.reason}")


def defined(names, line):
    """Return the pair of the name and the algebra that a line defines, or None, for every value of `line`."""
    try:
        command = read_line(line)
        if command[0] in DEFINING:
            return command[1], made(names, command)
    except Fault:
        return None
    return None


def asked(names, line):
    """Return the command of a line that is answered by a paper, all names of it defined, or None."""
    try:
        command = read_line(line)
    except NoText:
        return None
    if command[0] in KINDS and all([name in names for name in command[1:]]):
        return command
    return None


def shows_unlike(a, b, data):
    """Return True if the data show that two algebras without a radical are not isomorphic, for every value."""
    if not isinstance(data, tuple) or len(data) != 3 or data[0] != "unlike" or a.p != b.p:
        return False
    if not takes_radical(a, data[1]) or not takes_radical(b, data[2]):
        return False
    if data[1][1] != () or data[2][1] != ():
        return False
    return pairs_of(data[1]) != pairs_of(data[2])


def shown_of_two(a, b, data):
    """Return the answer that data show about two algebras, or None, for every value of `data`."""
    if takes_map(a, b, data):
        return "yes"
    if shows_unlike(a, b, data):
        return "no"
    return None


def shown(names, command, data):
    """Return the text of the answer to a command that data show, or None, for every value of `data`."""
    word = command[0]
    a = names[command[1]]
    if word == "isomorphic":
        return shown_of_two(a, names[command[2]], data)
    right = takes_primitive(a, data) if word == "primitive" else takes_radical(a, data)
    return answer_of(word, data) if right else None


def is_right(names, entry):
    """Return True if an entry, a pair of a line and a reply, is right, for every value of `entry`."""
    if not isinstance(entry, tuple) or len(entry) != 2 or not isinstance(entry[1], Reply):
        return False
    line, reply = entry
    command = asked(names, line)
    if command is None or reply.kind == "error":
        return reply == reply_to(names, line)
    text = shown(names, command, reply.data)
    return text is not None and reply.kind == KINDS[command[0]] and reply.text == text
