"""Plain data and logs: algebraparts.log."""

import unittest
from itertools import product

from algebras import numbers, small_algebras
from samples import ODD_VALUES, check_malformed, check_no_text, kinds_of, unchanged

from algebraparts.algebra import Algebra
from algebraparts.console import Console
from algebraparts.errors import Malformed, NoText
from algebraparts.log import first_wrong, read_data, read_log, write_data, write_log
from algebraparts.papers import primitive_paper, radical_paper
from algebraparts.replies import Reply

PAIRS = (
    (0, "0"), (1, "1"), (-1, "-1"), (10, "10"), (-10, "-10"), (123456789, "123456789"), ("a", "a"), ("z", "z"),
    ("abcdefghijkl", "abcdefghijkl"), ("radical", "radical"), ((), "()"), ((0,), "(0)"), ((-5,), "(-5)"),
    (("a",), "(a)"),
    ((1, 2), "(1 2)"), ((1, "b", -3), "(1 b -3)"), (((),), "(())"), (((), ()), "(() ())"),
    ((1, (2, (3,)), ()), "(1 (2 (3)) ())"),
    ((("a", 1), ("b", 0)), "((a 1) (b 0))"), ((((((),),),),), "((((()))))"),
)
LONG = (10 ** 3999, 10 ** 4000 - 1, -10 ** 3999, -(10 ** 4000 - 1), 7 ** 4000, -(2 ** 13287))


def nested(deep, inner=None):
    """A tuple that is nested so deep."""
    data = () if inner is None else (inner,)
    for _ in range(deep - 1):
        data = (data,)
    return data


def plain_forms():
    """The written forms of up to five characters, of the letter a, the digits 0 and 1, and the minus sign."""
    words = ["a" * k for k in range(1, 6)] + ["0"]
    for size in range(1, 6):
        words += ["1" + "".join(rest) for rest in product("01", repeat=size - 1)]
    forms = words + ["-" + word for word in words if word[0] == "1"]
    for _ in range(3):
        inner = [form for form in set(forms) if len(form) <= 3]
        for size in range(3):
            forms += ["(" + " ".join(items) + ")" for items in product(inner, repeat=size)]
    return [form for form in forms if len(form) <= 5]


class DataTest(unittest.TestCase):

    def check_data(self, data, text):
        self.assertEqual(kinds_of(unchanged(self, write_data, data)), kinds_of(text))
        self.assertEqual(kinds_of(unchanged(self, read_data, text)), kinds_of(data))

    def test_pairs(self):
        for data, text in PAIRS:
            self.check_data(data, text)

    def test_long_integers(self):
        for number in LONG:
            self.assertLessEqual(len(str(abs(number))), 4000)
            self.check_data(number, str(number))
            self.check_data((number, "a"), f"({number} a)")

    def test_labels(self):
        for many in range(1, 13):
            self.check_data("a" * many, "a" * many)
        for letter in "abcdefghijklmnopqrstuvwxyz":
            self.check_data(letter, letter)
        for label in ("", "a" * 13, "A", "aB", "a1", "1a", "a b", " a", "a ", "a-b", "a_b", "-", "(", ")", "()", "(a)",
                      "0", "1", "-1",
                      "a\n", "\n", "\u00e4", "\u0430", "a\t", "~"):
            check_malformed(self, write_data, label)
            check_malformed(self, write_data, ("a", label))

    def test_depth(self):
        for deep in range(1, 21):
            for inner, text in ((None, ""), (5, "5"), ("abc", "abc")):
                self.check_data(nested(deep, inner), "(" * deep + text + ")" * deep)
        for deep in (21, 22, 30, 500, 900):
            for inner, text in ((None, ""), (5, "5"), ("abc", "abc")):
                check_malformed(self, write_data, nested(deep, inner))
                check_no_text(self, read_data, "(" * deep + text + ")" * deep)
        check_no_text(self, read_data, "(" * 10 ** 5 + ")" * 10 ** 5)
        self.check_data((1, nested(19), nested(18, 3)),
                        "(1 " + "(" * 19 + ")" * 19 + " " + "(" * 18 + "3" + ")" * 18 + ")")
        check_malformed(self, write_data, (1, nested(20)))
        check_no_text(self, read_data, "(1 " + "(" * 20 + ")" * 20 + ")")

    def test_papers(self):
        for algebra in small_algebras().values():
            for paper in (radical_paper(algebra), primitive_paper(algebra)):
                self.assertEqual(kinds_of(read_data(write_data(paper))), kinds_of(paper))
                self.check_data(("unlike", paper, paper),
                                "(unlike " + write_data(paper) + " " + write_data(paper) + ")")

    def test_values_that_are_no_plain_data(self):
        values = (None, True, False, [], [1], ["a"], {}, {"a": 1}, 1.5, b"a", Malformed("x"), Algebra(2, [[(1,)]]),
                  Reply("a"),
                  10 ** 4001, -10 ** 5000)
        for value in values:
            for data in (value, (value,), (1, value), (value, "a"), ((value,),), (1, (2, (value, 3)))):
                check_malformed(self, write_data, data)

    def test_texts_of_no_data(self):
        for text in ("", " ", "-0", "00", "01", "-01", "007", "+1", "+0", "--1", "-", "- 1", "1-", "1.", "1_0", "0x1",
                     "1e3", "1 ", " 1",
                     "1 2", "a b", "a ", " a", "A", "aB", "a1", "1a", "a" * 13, "(", ")", ")(", "())", "(()", "(1",
                     "1)", "(1))",
                     "((1)", "( )", "( 1)", "(1 )", "(1  2)", " (1)", "(1) ", "(1)(2)", "(1) (2)", "((1)(2))", "(1(2))",
                     "((1)2)",
                     "(a(b))", "(1,2)", "(1, 2)", "[1]", "[]", "(1 -0)", "(01)", "(1 A)", "(1 +2)", "(\n)", "1\n",
                     "\n1", "(1\n2)",
                     "(1\t2)", "\t1", "1\r", "(a" * 3 + ")", "'a'", "None", "()()", "() ()", "(-)", "(1 --2)",
                     "1" * 4001, "-" + "1" * 4001,
                     "(" + "1" * 4001 + ")"):
            check_no_text(self, read_data, text)

    def test_digits_of_other_scripts(self):
        for text in ("\u0663", "1\u0663", "\uff11", "\u00b2", "(\u0967)", "-\u0663", "\u0660", "\u2212" + "1", "\u2003",
                     "1\u00a0"):
            check_no_text(self, read_data, text)

    def test_values_that_are_no_texts(self):
        for value in ODD_VALUES + (b"1", b"", ["1"], ("(", ")"), 1, 0, 10 ** 50, 2.5):
            if value not in ("0", "abc"):
                check_no_text(self, read_data, value)

    def test_all_short_texts(self):
        found = 0
        for size in range(6):
            for letters in product("(a 0-1)", repeat=size):
                text = "".join(letters)
                try:
                    data = read_data(text)
                except NoText as wrong:
                    self.assertEqual(wrong.at, 0)
                else:
                    self.assertEqual(write_data(data), text)
                    found += 1
        self.assertEqual(found, len(set(plain_forms())))


def some_entries():
    """Entries with all kinds of lines, texts and data."""
    return [
        ("", Reply("done")), ("show a", Reply("error", "refused name")), (" ", Reply("done", "", ())),
        ("  # two ", Reply("a", " text with spaces at its ends ", (1, -2, ("a", ())))),
        ("> x", Reply("abcdefghijkl", "= y", ("b",))), ("# ()", Reply("number", "# ()", ((), 0))),
        ("\t\r\x0b\x0c\x1c\x85\u2028\u2029", Reply("k", "\t\r\x0b\x0c\x85\u2028 ", (10 ** 3999,))),
        ("line", Reply("kind", "text", nested(20))), ("a", Reply("b", " ")), ("a", Reply("b", "  c")),
    ]


class WriteLogTest(unittest.TestCase):

    def test_the_form(self):
        self.assertEqual(write_log([]), "")
        self.assertEqual(write_log([("", Reply("done"))]), "> \n= done \n# ()\n")
        self.assertEqual(write_log([("radical a", Reply("number", "1", ("radical", ((0, 1),), -2))),
                                    (" x ", Reply("error", "text"))]),
                         "> radical a\n= number 1\n# (radical ((0 1)) -2)\n>  x \n= error text\n# ()\n")

    def test_back_and_forth(self):
        entries = some_entries()
        for some in [[], entries] + [[entry] for entry in entries] + [entries[k:] + entries[:k] for k in range(4)]:
            text = write_log(some)
            self.assertEqual(text, write_log(some))
            self.assertEqual(text.count("\n"), 3 * len(some))
            found = read_log(text)
            self.assertIs(found.__class__, list)
            self.assertEqual([entry.__class__ for entry in found], [tuple] * len(some))
            self.assertEqual([line for line, _ in found], [line for line, _ in some])
            for (_, one), (_, two) in zip(found, some):
                self.assertIs(one.__class__, Reply)
                self.assertEqual(kinds_of((one.kind, one.text, one.data)), kinds_of((two.kind, two.text, two.data)))
            self.assertEqual(write_log(found), text)
            self.assertEqual(found, read_log(text))

    def test_wrong_items(self):
        right = ("a", Reply("kind", "text", (1,)))
        pieces = [None, 0, True, "", "ab", (), ("a",), ["a", Reply("kind")], ("a", Reply("kind"), 1),
                  (Reply("kind"), "a"),
                  ("a", "b"), ("a", None), ("a", ("kind", "text", ())), Reply("kind"), {"a": 1}, ("a\n", Reply("kind")),
                  ("\n", Reply("kind")), ("a\nb", Reply("kind")), (None, Reply("kind")), (1, Reply("kind")),
                  (b"a", Reply("kind")),
                  (("a",), Reply("kind")), (["a"], Reply("kind"))]
        for kind in ("", "A", "a b", "a" * 13, "a1", None, 0, True, ("a",), ["a"], "a\n", " a", "\u00e4", b"a",
                     Reply("a")):
            pieces.append(("a", Reply(kind)))
            pieces.append(("a", Reply(kind, "text", (1,))))
        for text in ("\n", "a\n", "\na", "a\nb", None, 0, True, ("a",), ["a"], b"a", Reply("a")):
            pieces.append(("a", Reply("kind", text)))
        for data in (1, "a", None, [], [1], True, {}, (True,), (None,), ([],), ("A",), ("a" * 13,), ("",),
                     (1, (2, [3])), nested(21),
                     ("a b",), (1.5,), (Reply("a"),), Reply("a"), ((), (False,))):
            pieces.append(("a", Reply("kind", "text", data)))
        for wrong in pieces:
            for entries in ([wrong], [right, wrong], [wrong, right], [right, right, wrong, right]):
                check_malformed(self, write_log, entries)
        self.assertEqual(write_log([right, right]), "> a\n= kind text\n# (1)\n" * 2)


class ReadLogTest(unittest.TestCase):

    def check_at(self, at, text):
        for _ in range(2):
            with self.assertRaises(NoText) as caught:
                read_log(text)
            self.assertEqual(kinds_of(caught.exception.at), kinds_of(at))

    def test_no_strings(self):
        for value in ODD_VALUES + (b"", b"> a\n= b c\n# ()\n", [], ["> a"], 5, 2.5):
            if not isinstance(value, str):
                self.check_at(0, value)

    def test_one_wrong_line(self):
        rows = write_log(some_entries()).split("\n")[:-1]
        self.assertEqual(len(read_log("\n".join(rows) + "\n")), len(rows) // 3)
        wrong = {
            0: ("", ">", ">x", "x", " > a", "= a b", "# ()", "<a", ">\ta", "=", "a"),
            1: ("", "=", "= ", "=  ", "= a", "=a b", "= A b", "= a1 b", "=  a b", "= " + "a" * 13 + " b", "> a", "# ()",
                " = a b",
                "= a\tb", "a b", "= 1 a", "= -a b"),
            2: ("", "#", "# ", "#()", "#  ()", "# () ", "# 1", "# a", "# -1", "# (01)", "# (", "# )", "# (1 )", "# (A)",
                "> a", "= a b",
                " # ()", "# " + "(" * 21 + ")" * 21, "# () ()", "()", "# None", "# (-0)"),
        }
        for at in range(len(rows)):
            for row in wrong[at % 3]:
                changed = rows[:at] + [row] + rows[at + 1:]
                self.check_at(at, "\n".join(changed) + "\n")
                # The first one counts, and a line ahead of the end of the text.
                self.check_at(at, "\n".join(changed))
                self.check_at(at, "\n".join(changed[:at + 1]) + "\n")
                if at + 4 < len(rows):
                    self.check_at(at, "\n".join(changed[:at + 4] + ["x"] + changed[at + 5:]) + "\n")

    def test_the_end_of_the_text(self):
        rows = write_log(some_entries()).split("\n")[:-1]
        for many in range(len(rows) + 1):
            text = "".join(row + "\n" for row in rows[:many])
            if many % 3 == 0:
                self.assertEqual(len(read_log(text)), many // 3)
            else:
                self.check_at(many, text)
            # Without a line feed, with the form of the line or not.
            if many < len(rows):
                self.check_at(many, text + rows[many])
            for end in (" ", "x", ">", "> ", "> a", "= b c", "# ()", "\r", "\x85", "\u2028"):
                self.check_at(many, text + end)
            # A line feed too many is a line.
            if many % 3 == 0:
                self.check_at(many, text + "\n")
                self.check_at(many, text + "\n\n")

    def test_short_texts(self):
        self.assertEqual(read_log(""), [])
        for text, at in (("\n", 0), ("a", 0), (" ", 0), ("> a", 0), ("> a\n", 1), ("> a\n= b", 1), ("> a\n= b c", 1),
                         ("> a\n= b c\n", 2),
                         ("> a\n= b c\n# ()", 2), ("> a\n= b c\n# (", 2), ("> a\n= b c\n# (\n", 2), ("> a\n\n", 1),
                         ("> a\r\n= b c\n# ()\n>", 3)):
            self.check_at(at, text)
        self.assertEqual(read_log("> a\r\n= b c\r\n# ()\n"), [("a\r", Reply("b", "c\r"))])


def right_entries():
    """A list of right entries, with each kind of line."""
    console = Console()
    for line in ("# begin", "matrices m 2 2", "triangular t 2 2", "let d = 2 2: 10 01 01 00", "radical d",
                 "structure m", "primitive t",
                 "product m m t", "radical m", "structure m", "quotient q m", "isomorphic q q", "isomorphic q m",
                 "show none",
                 "let f = 2 2: 10 01 01 11", "let g = 2 2: 11 01 01 10", "isomorphic f g", "matrices f 2 1",
                 "isomorphic f g", "index m",
                 "centre m", "blocks m", "units m", "nothing", "", "tensor x d d", "opposite t t", "show t",
                 "matrices x 4 2",
                 "matrices x 2 9", "show x"):
        console.enter(line)
    return list(console)


class FirstWrongTest(unittest.TestCase):

    def test_right_lists(self):
        self.assertEqual(first_wrong([]), -1)
        entries = right_entries()
        self.assertEqual(kinds_of(unchanged(self, first_wrong, entries)), kinds_of(-1))
        self.assertEqual(first_wrong(read_log(write_log(entries))), -1)
        for many in range(0, len(entries), 3):
            self.assertEqual(first_wrong(entries[:many]), -1)

    def test_one_changed_entry(self):
        entries = right_entries()
        for at, (line, reply) in enumerate(entries):
            for wrong in (Reply(reply.kind, reply.text + "x", reply.data), Reply(reply.kind + "x", reply.text,
                                                                                 reply.data),
                          Reply(reply.kind, reply.text, reply.data + (1,)), Reply("other"), None, reply.text):
                changed = entries[:at] + [(line, wrong)] + entries[at + 1:]
                self.assertEqual(first_wrong(changed), at)
            for entry in (None, (), [line, reply], (line, reply, reply), reply, line):
                self.assertEqual(first_wrong(entries[:at] + [entry] + entries[at + 1:]), at)

    def test_the_first_one_counts(self):
        entries = right_entries()
        wrong = ("", Reply("error", "text"))
        for at in range(0, len(entries), 4):
            changed = entries[:at] + [wrong] + entries[at + 1:-1] + [wrong]
            self.assertEqual(first_wrong(changed), at)

    def test_a_line_that_changes_later_definitions(self):
        # Each entry is right alone where its names mean what they did before.
        console = Console()
        for line in ("matrices a 2 1", "show a", "matrices b 3 1", "show b", "show a"):
            console.enter(line)
        entries = list(console)
        self.assertEqual(first_wrong(entries), -1)
        other = Console()
        other.enter("matrices a 3 1")
        self.assertEqual(first_wrong(list(other) + entries[1:]), 1)
        # A definition that goes away, and one that comes too late.
        self.assertEqual(first_wrong(entries[1:]), 0)
        self.assertEqual(first_wrong(entries[:2] + entries[3:]), 2)
        self.assertEqual(first_wrong([entries[1], entries[0]]), 0)
        # A definition that takes the place of another one.
        other = Console()
        other.enter("matrices a 5 1")
        self.assertEqual(first_wrong(entries[:4] + list(other) + entries[4:]), 5)
        # A line that has an error defines nothing.
        other = Console()
        other.enter("matrices a 5 9")
        self.assertEqual(first_wrong(entries[:4] + list(other) + entries[4:]), -1)

    def test_it_begins_without_definitions(self):
        self.assertEqual(first_wrong([("show a", Reply("error", "refused name"))]), -1)
        self.assertEqual(first_wrong([("show a", Reply("algebra", str(numbers(2))))]), 0)


if __name__ == "__main__":
    unittest.main()
