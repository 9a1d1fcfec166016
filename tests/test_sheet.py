"""Reading lines: algebraparts.sheet."""

import unittest

from algebras import DUAL, small_algebras
from samples import ODD_VALUES, PRIMES, check_no_text, kinds_of, unchanged

from algebraparts.algebra import Algebra
from algebraparts.build import polynomial_quotient
from algebraparts.sheet import read_line

# What follows each word but let: names, and numbers.
FORMS = {
    "matrices": "n00", "triangular": "n00", "product": "nnn", "tensor": "nnn", "opposite": "nn", "quotient": "nn",
    "show": "n", "radical": "n", "structure": "n", "primitive": "n", "isomorphic": "nn", "index": "n", "centre": "n",
    "blocks": "n", "units": "n",
}
NAMES = ("a", "b", "abcdefgh", "let", "show", "zz")
NUMBERS = ("0", "2", "99")
DUAL_TEXT = "2 2: 10 01 01 00"
WRONG_NAMES = ("abcdefghi", "A", "aB", "a1", "1", "a_b", "a-b", "a.", "=", "#", "a#", "a,", "~", "x=")
WRONG_NUMBERS = ("00", "01", "07", "099", "100", "1000", "-1", "-0", "+1", "+0", "1.", "1.0", "1e1", "1_0", "0x1", "a",
                 "=", "",
                 "9" * 500)


def tokens_of(word):
    """Right tokens behind a word."""
    names, numbers = list(NAMES), list(NUMBERS)
    return [names.pop(0) if kind == "n" else numbers.pop(1) for kind in FORMS[word]]


def command_of(words):
    """The command of tokens: numbers as integers."""
    return tuple(int(word) if word.isdigit() else word for word in words)


class CommandsTest(unittest.TestCase):

    def check_command(self, line, wanted):
        self.assertEqual(kinds_of(unchanged(self, read_line, line)), kinds_of(wanted))

    def test_each_word(self):
        for word in FORMS:
            words = [word] + tokens_of(word)
            self.check_command(" ".join(words), command_of(words))
        self.check_command("matrices m 2 3", ("matrices", "m", 2, 3))
        self.check_command("tensor a b c", ("tensor", "a", "b", "c"))
        self.check_command("isomorphic a a", ("isomorphic", "a", "a"))
        self.check_command("units units", ("units", "units"))

    def test_all_names_and_numbers(self):
        letters = "abcdefghijklmnopqrstuvwxyz"
        for name in list(NAMES) + list(letters) + ["a" * k for k in range(1,
                                                                          9)] + [letters[k:k + 8] for k in range(26)]:
            self.check_command(f"show {name}", ("show", name))
            self.check_command(f"product {name} {name} {name}", ("product", name, name, name))
        for number in range(100):
            self.check_command(f"matrices a {number} {99 - number}", ("matrices", "a", number, 99 - number))
            self.check_command(f"triangular a {number} 0", ("triangular", "a", number, 0))

    def test_spaces(self):
        for word in FORMS:
            words = [word] + tokens_of(word)
            for gap in (1, 2, 7, 300):
                for ahead in (0, 1, 2, 100):
                    for behind in (0, 1, 3, 100):
                        line = " " * ahead + (" " * gap).join(words) + " " * behind
                        self.check_command(line, command_of(words))

    def test_empty_lines(self):
        for line in ("", " ", "   ", " " * 2000, "#", "##", "# ", "#a", "# let a", "#let a = x", "# show ~!",
                     "#" * 2000):
            self.check_command(line, ("empty",))
        for line in (" #", "  # a", " " * 1999 + "#", "a #", "show a #", "show #"):
            check_no_text(self, read_line, line)

    def test_the_length(self):
        self.check_command("show a" + " " * 1994, ("show", "a"))
        self.check_command(" " * 1994 + "show a", ("show", "a"))
        self.check_command("show" + " " * 1995 + "a", ("show", "a"))
        for line in ("show a" + " " * 1995, " " * 1995 + "show a", "show" + " " * 1996 + "a", " " * 2001, "#" * 2001,
                     "#" + " " * 2000, " " * 10 ** 6, "#" + "a" * 10 ** 6):
            check_no_text(self, read_line, line)

    def test_characters(self):
        for number in list(range(32)) + [127, 128, 133, 160, 8192, 8232, 12288, 65279, 128512]:
            letter = chr(number)
            for line in (letter, "#" + letter, "show a" + letter, letter + "show a", "show" + letter + "a",
                         "show a" + letter + "b",
                         "# a" + letter + "b", "let a = " + DUAL_TEXT + letter):
                check_no_text(self, read_line, line)
        every = "".join(chr(number) for number in range(32, 127))
        self.check_command("#" + every, ("empty",))
        for digit in "\u0663\uff11\u00b2\u0967":
            check_no_text(self, read_line, "matrices a 2 " + digit)

    def test_wrong_names(self):
        for word, form in FORMS.items():
            for k, kind in enumerate(form):
                for wrong in WRONG_NAMES if kind == "n" else WRONG_NUMBERS:
                    words = [word] + tokens_of(word)
                    words[k + 1] = wrong
                    check_no_text(self, read_line, " ".join(words))

    def test_wrong_numbers_of_tokens(self):
        for word in FORMS:
            tokens = tokens_of(word)
            for wrong in [tokens[:k] for k in range(len(tokens))] + [tokens + [token] for token in ("a", "2", "=",
                                                                                                    "#")]:
                check_no_text(self, read_line, " ".join([word] + wrong))

    def test_unknown_words(self):
        for word in ("Show", "SHOW", "sho", "shows", "a", "2", "=", "empty", "define", "matrix", "ideal", "center",
                     "lets", "le",
                     "show,", "'show'", "~", "radicals", "Let", "LET"):
            for rest in ("", " a", " a b", " a b c", " a 2 2", " a = " + DUAL_TEXT):
                check_no_text(self, read_line, word + rest)


class LetTest(unittest.TestCase):

    def check_let(self, line, name, algebra):
        found = unchanged(self, read_line, line)
        self.assertIs(found.__class__, tuple)
        self.assertEqual(len(found), 3)
        self.assertEqual(found[:2], ("let", name))
        self.assertIs(found[2].__class__, Algebra)
        self.assertTrue(found[2] == algebra)

    def test_small_algebras(self):
        for algebra in small_algebras().values():
            self.check_let(f"let a = {algebra}", "a", algebra)

    def test_spaces(self):
        dual = Algebra(2, DUAL)
        for name in NAMES:
            for line in (f"let {name} = {DUAL_TEXT}", f"  let   {name}    =   {DUAL_TEXT}   ",
                         f"let {name} = {DUAL_TEXT} ",
                         f" let {name} =   {DUAL_TEXT}", f"let   {name} = {DUAL_TEXT}" + " " * 1900):
                self.check_let(line, name, dual)

    def test_the_greatest_algebras(self):
        for p, n in ((2, 12), (3, 7), (5, 5), (7, 4)):
            algebra = polynomial_quotient(p, (0,) * n + (1,))
            self.check_let(f"let abcdefgh = {algebra}", "abcdefgh", algebra)

    def test_without_the_form(self):
        for line in ("let", "let a", "let a =", "let a = ", "let =", f"let = {DUAL_TEXT}", f"let a {DUAL_TEXT}",
                     DUAL_TEXT,
                     f"let a ={DUAL_TEXT}", f"let a= {DUAL_TEXT}", f"let a={DUAL_TEXT}", f"leta = {DUAL_TEXT}",
                     f"let a b = {DUAL_TEXT}", f"let a == {DUAL_TEXT}", f"let a = = {DUAL_TEXT}",
                     f"let a := {DUAL_TEXT}",
                     f"a = {DUAL_TEXT}", f"let a = {DUAL_TEXT} =", f"let a = {DUAL_TEXT} #", f"let {DUAL_TEXT} = a",
                     f"let = a {DUAL_TEXT}", f"let let a = {DUAL_TEXT}"):
            check_no_text(self, read_line, line)
        for name in WRONG_NAMES:
            check_no_text(self, read_line, f"let {name} = {DUAL_TEXT}")

    def test_texts_of_no_algebra(self):
        for text in ("2  2: 10 01 01 00", "2 2 : 10 01 01 00", "2 2: 10  01 01 00", "2 2: 10 01 01",
                     "2 2: 10 01 01 00 00",
                     "2 2: 10 01 01 02", "4 2: 10 01 01 00", "2 2: 10 01 10 00", "2 1: 0", "2 2:10 01 01 00", "a", "1",
                     "2",
                     "2 2:", "2 2: 10, 01, 01, 00", "02 2: 10 01 01 00", "2 0:", "2 13:", DUAL_TEXT + " x",
                     DUAL_TEXT + "x",
                     "x" + DUAL_TEXT, "x " + DUAL_TEXT, "= " + DUAL_TEXT, "=" + DUAL_TEXT, DUAL_TEXT + "."):
            check_no_text(self, read_line, f"let a = {text}")

    def test_over_each_p(self):
        for p in PRIMES:
            self.check_let(f"let a = {p} 1: 1", "a", Algebra(p, [[(1,)]]))


class EveryValueTest(unittest.TestCase):

    def test_values_that_are_no_lines(self):
        for value in ODD_VALUES + (b"show a", b"", ["show a"], ("show", "a"), [], (), {"show": "a"}, 3.5, 10 ** 5000):
            if value != "":
                check_no_text(self, read_line, value)


if __name__ == "__main__":
    unittest.main()
