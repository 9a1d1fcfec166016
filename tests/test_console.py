"""The console: algebraparts.console."""

import unittest

from algebras import numbers
from samples import check_refused, kinds_of
from test_replies import fields_of

from algebraparts.algebra import Algebra
from algebraparts.build import direct_product, matrix_algebra, triangular_algebra
from algebraparts.console import Console
from algebraparts.log import first_wrong, read_log
from algebraparts.replies import Reply, reply_to

LINES = ("# begin", "triangular t 2 2", "structure t", "radical t", "primitive t", "quotient q t", "isomorphic q q",
         "show missing",
         "nonsense", "matrices m 3 2", "isomorphic t m", "matrices t 3 1", "product p t m", "structure p",
         "matrices t 9 9", "show t", "",
         "units p", "let t = 2 2: 10 01 01 00", "index t", "tensor u t t", "centre u", "blocks u", "opposite o u")


def entered(lines, **more):
    console = Console(**more)
    for line in lines:
        console.enter(line)
    return console


class ConsoleTest(unittest.TestCase):

    def test_enter(self):
        console = Console()
        names = {}
        for k, line in enumerate(LINES):
            self.assertEqual(kinds_of(len(console)), kinds_of(k))
            reply = console.enter(line)
            self.assertIs(reply.__class__, Reply)
            self.assertEqual(kinds_of(fields_of(reply)), kinds_of(fields_of(reply_to(names, line))))
            names = console.names()
        self.assertEqual(len(console), len(LINES))
        self.assertEqual([line for line, _ in console], list(LINES))

    def test_iterating(self):
        console = Console()
        self.assertEqual(list(console), [])
        replies = [console.enter(line) for line in LINES]
        for _ in range(2):
            entries = list(console)
            self.assertEqual([entry.__class__ for entry in entries], [tuple] * len(LINES))
            self.assertEqual(entries, list(zip(LINES, replies)))
        entries.append(1)
        self.assertEqual(len(list(console)), len(LINES))

    def test_names(self):
        console = Console()
        self.assertEqual(console.names(), {})
        console.enter("triangular t 2 2")
        self.assertEqual(console.names(), {"t": triangular_algebra(2, 2)})
        console.enter("matrices m 3 2")
        found = console.names()
        self.assertIs(found.__class__, dict)
        self.assertEqual(found, {"t": triangular_algebra(2, 2), "m": matrix_algebra(3, 2)})
        # A new dict each time: changing it changes nothing.
        found["x"] = numbers(2)
        del found["t"]
        self.assertEqual(console.names(), {"t": triangular_algebra(2, 2), "m": matrix_algebra(3, 2)})
        self.assertIsNot(console.names(), console.names())
        self.assertEqual(console.enter("show x").text, "refused name")
        self.assertEqual(console.enter("show t").text, str(triangular_algebra(2, 2)))
        # An earlier dict is not changed by later lines.
        before = console.names()
        console.enter("matrices z 2 1")
        self.assertEqual(set(before), {"t", "m"})

    def test_a_definition_in_the_place_of_an_earlier_one(self):
        console = entered(["matrices a 2 1", "matrices a 3 1", "show a"])
        self.assertEqual(console.names(), {"a": numbers(3)})
        self.assertEqual([reply.text for _, reply in console], ["2 1: 1", "3 1: 1", "3 1: 1"])
        # One that is made of the earlier one.
        console.enter("product a a a")
        self.assertEqual(console.names(), {"a": direct_product(numbers(3), numbers(3))})
        # An error leaves it.
        for line in ("matrices a 4 1", "matrices a 2 9", "product a a b", "let a = 2 1: 0", "tensor a b a",
                     "opposite a b"):
            self.assertEqual(console.enter(line).kind, "error")
            self.assertEqual(console.names(), {"a": direct_product(numbers(3), numbers(3))})

    def test_errors_add_entries_and_define_nothing(self):
        console = Console()
        for k, line in enumerate(("x", "show a", "matrices a 4 2", "matrices a 2 4", "product a b c", "let a = 2",
                                  " #")):
            self.assertEqual(console.enter(line).kind, "error")
            self.assertEqual(len(console), k + 1)
            self.assertEqual(console.names(), {})
        self.assertEqual(first_wrong(list(console)), -1)

    def test_log(self):
        console = Console()
        self.assertEqual(console.log(), "")
        for k, line in enumerate(LINES):
            console.enter(line)
            if k % 5 == 0 or k == len(LINES) - 1:
                text = console.log()
                self.assertEqual(text, console.log())
                self.assertEqual(text.count("\n"), 3 * (k + 1))
                entries = read_log(text)
                self.assertEqual(entries, list(console))
                self.assertEqual(first_wrong(entries), -1)
        self.assertEqual(len(console), len(LINES))
        self.assertEqual(entered(["", "matrices a 2 1"]).log(),
                         "> \n= done \n# ()\n> matrices a 2 1\n= algebra 2 1: 1\n# ()\n")

    def test_lines_of_all_characters(self):
        for line in ("\t", "\r", "\x0b\x0c", "\u2028", "\u00e4", "x" * 3000, "> a", "= b c", "# ()", " "):
            console = entered([line])
            self.assertEqual(read_log(console.log()), list(console))
            self.assertEqual(list(console)[0][0], line)

    def test_equal_lines_give_equal_logs(self):
        self.assertEqual(entered(LINES).log(), entered(LINES).log())
        self.assertEqual(list(entered(LINES)), list(entered(LINES)))


class MostTest(unittest.TestCase):

    def test_300_unless_told_otherwise(self):
        console = Console()
        for k in range(300):
            self.assertEqual(console.enter("" if k % 2 else "x").kind, "done" if k % 2 else "error")
        check_refused(self, "lines", console.enter, "")
        self.assertEqual(len(console), 300)

    def test_told_numbers(self):
        for most in (0, 1, 2, 7, 301, 400):
            console = Console(most=most)
            for k in range(most):
                self.assertEqual(console.enter("matrices a 2 1").text, "2 1: 1")
            before, names, text = list(console), console.names(), console.log()
            for line in ("matrices b 2 1", "x", "", "show a", "matrices a 3 1"):
                check_refused(self, "lines", console.enter, line)
                self.assertEqual(len(console), most)
                self.assertEqual(list(console), before)
                self.assertEqual(console.names(), names)
                self.assertEqual(console.log(), text)

    def test_it_is_a_keyword(self):
        with self.assertRaises(TypeError):
            Console(5)


class TwoConsolesTest(unittest.TestCase):

    def test_they_do_not_share_anything(self):
        one, two = Console(), Console(most=2)
        one.enter("matrices a 2 1")
        self.assertEqual((len(two), list(two), two.names(), two.log()), (0, [], {}, ""))
        self.assertEqual(two.enter("show a").text, "refused name")
        two.enter("matrices a 3 1")
        self.assertEqual(one.names(), {"a": Algebra(2, [[(1,)]])})
        self.assertEqual(two.names(), {"a": Algebra(3, [[(1,)]])})
        check_refused(self, "lines", two.enter, "")
        self.assertEqual(one.enter("show a").text, "2 1: 1")
        self.assertEqual((len(one), len(two)), (2, 2))


if __name__ == "__main__":
    unittest.main()
