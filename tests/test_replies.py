"""Replies to lines, and right entries: algebraparts.replies."""

import unittest

from algebras import DUAL, field, numbers, small_algebras, truncated
from samples import ODD_VALUES, PRIMES, drawn_basis, kinds_of, unchanged
from shapes import larger_algebras
from test_radical import drawn_basis_of
from test_structure import type_cases

from algebraparts.algebra import Algebra
from algebraparts.build import (
    changed, direct_product, matrix_algebra, opposite, tensor_product, triangular_algebra,
)
from algebraparts.centre import centre
from algebraparts.checker import takes_map, takes_primitive, takes_radical
from algebraparts.groups import dihedral_table, group_algebra
from algebraparts.ideals import quotient
from algebraparts.idempotents import block_idempotents, primitive_decomposition
from algebraparts.papers import map_paper, primitive_paper, radical_paper
from algebraparts.radical import is_semisimple, radical, radical_index
from algebraparts.replies import Reply, defined, is_right, reply_to
from algebraparts.structure import structure, unit_count, wedderburn_type

DUAL_TEXT = "2 2: 10 01 01 00"
ERRORS = ("text", "malformed", "refused name", "refused large", "refused radical")


def names_of(p=2):
    """A dict of algebras over one p, and of two over another one."""
    q = 3 if p == 2 else 2
    mixed = direct_product(matrix_algebra(2, 2), Algebra(2, DUAL)) if p == 2 else direct_product(field(p), numbers(p))
    return {
        "one": numbers(p), "pairs": numbers(p, 2), "f": field(p), "dual": Algebra(p, DUAL), "mat": matrix_algebra(p, 2),
        "tri": triangular_algebra(p, 2), "mixed": mixed, "other": numbers(q), "otherd": Algebra(q, DUAL),
        "turned": changed(matrix_algebra(p, 2), drawn_basis_of(matrix_algebra(p, 2), 4)),
    }


def fields_of(reply):
    return reply.kind, reply.text, reply.data


class ReplyTest(unittest.TestCase):

    def test_fields(self):
        for arguments, wanted in ((("a",), ("a", "", ())), (("a", "b"), ("a", "b", ())),
                                  (("a", "b", (1,)), ("a", "b", (1,))),
                                  (("", "", ((),)), ("", "", ((),)))):
            reply = Reply(*arguments)
            self.assertEqual(set(vars(reply)), {"kind", "text", "data"})
            self.assertEqual(kinds_of(fields_of(reply)), kinds_of(wanted))
        self.assertEqual(fields_of(Reply("a", data=(2,))), ("a", "", (2,)))
        self.assertEqual(fields_of(Reply(data=(2,), text="t", kind="k")), ("k", "t", (2,)))

    def test_equality(self):
        fields = [(kind, text, data) for kind in ("a", "b", "") for text in ("a", "b", "") for data in ((), (1,),
                                                                                                        ("a",), ((),))]
        for one in fields:
            for two in fields:
                self.assertIs(Reply(*one) == Reply(*two), one == two)
                self.assertIs(Reply(*one) != Reply(*two), one != two)
        self.assertIs(Reply("a") == Reply("a", "", ()), True)

    def test_other_values(self):
        for reply in (Reply("a"), Reply("", "", ()), Reply("error", "text"), Reply("a", "b", (1,))):
            for value in ODD_VALUES + (fields_of(reply), list(fields_of(reply)), reply.kind, (reply,), [reply],
                                       vars(reply),
                                       structure(numbers(2))[0]):
                self.assertIs(reply == value, False)
                self.assertIs(reply != value, True)
                self.assertIs(value == reply, False)


class DefinitionsTest(unittest.TestCase):

    def check_definition(self, names, line, name, algebra):
        reply = unchanged(self, reply_to, names, line)
        self.assertIs(reply.__class__, Reply)
        self.assertEqual(kinds_of(fields_of(reply)), kinds_of(("algebra", str(algebra), ())))
        pair = unchanged(self, defined, names, line)
        self.assertIs(pair.__class__, tuple)
        self.assertEqual(len(pair), 2)
        self.assertEqual(pair[0], name)
        self.assertIs(pair[1].__class__, Algebra)
        self.assertTrue(pair[1] == algebra)

    def test_let(self):
        for algebra in list(small_algebras().values()) + larger_algebras():
            self.check_definition({}, f"let a = {algebra}", "a", algebra)
            self.check_definition({"a": numbers(2)}, f"  let  a =   {algebra} ", "a", algebra)

    def test_sizes(self):
        for p in PRIMES:
            for m in (1, 2):
                self.check_definition({}, f"matrices a {p} {m}", "a", matrix_algebra(p, m))
                self.check_definition({}, f"triangular a {p} {m}", "a", triangular_algebra(p, m))
        self.check_definition({}, "matrices abcdefgh 2 3", "abcdefgh", matrix_algebra(2, 3))
        self.check_definition({}, "triangular a 2 4", "a", triangular_algebra(2, 4))
        self.check_definition({}, "triangular a 3 3", "a", triangular_algebra(3, 3))

    def test_products(self):
        for p in PRIMES:
            names = names_of(p)
            for a in ("one", "pairs", "f", "dual"):
                for b in ("one", "dual"):
                    one, two = names[a], names[b]
                    self.check_definition(names, f"product x {a} {b}", "x", direct_product(one, two))
                    self.check_definition(names, f"tensor x {a} {b}", "x", tensor_product(one, two))
                    self.check_definition(names, f"product {a} {a} {b}", a, direct_product(one, two))
        names = names_of(2)
        self.check_definition(names, "product x tri mat", "x", direct_product(names["tri"], names["mat"]))
        self.check_definition(names, "tensor x mat tri", "x", tensor_product(names["mat"], names["tri"]))

    def test_opposite_and_quotient(self):
        for p in PRIMES:
            names = names_of(p)
            for a, algebra in names.items():
                self.check_definition(names, f"opposite x {a}", "x", opposite(algebra))
                self.check_definition(names, f"quotient x {a}", "x", quotient(algebra, radical(algebra)))
                self.check_definition(names, f"quotient {a} {a}", a, quotient(algebra, radical(algebra)))

    def test_lines_that_define_nothing(self):
        names = names_of(2)
        for line in ("show one", "radical mixed", "structure mixed", "primitive mixed", "isomorphic mat turned",
                     "index dual",
                     "centre dual", "blocks dual", "units dual", "", "  ", "# let a = " + DUAL_TEXT):
            self.assertNotEqual(reply_to(names, line).kind, "error")
            self.assertIsNone(unchanged(self, defined, names, line))


class ErrorsTest(unittest.TestCase):

    def check_error(self, names, line, text):
        reply = unchanged(self, reply_to, names, line)
        self.assertIs(reply.__class__, Reply)
        self.assertEqual(kinds_of(fields_of(reply)), kinds_of(("error", text, ())))
        self.assertIsNone(unchanged(self, defined, names, line))

    def test_text(self):
        names = names_of(2)
        for line in ("nothing", "show", "show one one", "Show one", "matrices a 2", "matrices a 2 100", "let a",
                     "let one = 2 1: 0",
                     " # a", "show a\t", "show one\n", "show toolongname", "x" * 2001, "show missing extra",
                     "let a = b"):
            self.check_error(names, line, "text")

    def test_for_every_value(self):
        for value in ODD_VALUES + (["show one"], ("show one",), {"show": "one"}, b"show one", 5, Reply("a"),
                                   10 ** 5000):
            if value != "":
                self.check_error({"one": numbers(2)}, value, "text")

    def test_names(self):
        names = names_of(2)
        for word in ("show", "radical", "structure", "primitive", "index", "centre", "blocks", "units"):
            self.check_error(names, f"{word} missing", "refused name")
            self.check_error({}, f"{word} one", "refused name")
        for word in ("opposite", "quotient"):
            self.check_error(names, f"{word} a missing", "refused name")
            # The name of the new algebra is none that is looked up.
            self.check_error(names, f"{word} one a", "refused name")
        for word in ("product a", "tensor a", "isomorphic"):
            for pair in ("missing one", "one missing", "missing gone", "dual missing", "missing dual", "other missing",
                         "missing otherd"):
                self.check_error(names, f"{word} {pair}", "refused name")
        self.check_error(names, "product missing missing one", "refused name")

    def test_names_come_ahead_of_other_errors(self):
        names = names_of(2)
        names["large"] = tensor_product(matrix_algebra(2, 2), field(2, 3))
        for pair in ("large missing", "missing large"):
            self.check_error(names, f"product a {pair}", "refused name")
            self.check_error(names, f"tensor a {pair}", "refused name")
        self.check_error(names, "product a large large", "refused large")
        self.check_error(names, "tensor a large dual", "refused large")
        self.check_error(names, "isomorphic dual missing", "refused name")
        self.check_error(names, "isomorphic missing dual", "refused name")

    def test_malformed(self):
        for line in ("matrices a 0 1", "matrices a 1 2", "matrices a 4 2", "matrices a 99 2", "triangular a 6 1",
                     "matrices a 2 0",
                     "triangular a 3 0", "matrices a 4 0", "matrices a 4 99", "triangular a 9 99", "triangular a 0 0"):
            self.check_error({}, line, "malformed")
        for p in PRIMES:
            names = names_of(p)
            for a in ("one", "dual", "mat", "mixed"):
                for b in ("other", "otherd"):
                    for word in ("product x", "tensor x", "isomorphic"):
                        self.check_error(names, f"{word} {a} {b}", "malformed")
                        self.check_error(names, f"{word} {b} {a}", "malformed")

    def test_large(self):
        for line in ("matrices a 2 4", "matrices a 3 3", "matrices a 5 3", "matrices a 7 99", "triangular a 2 5",
                     "triangular a 3 4",
                     "triangular a 7 3", "triangular a 5 99"):
            self.check_error({}, line, "refused large")
        for p, n in ((2, 12), (3, 7), (5, 5), (7, 4)):
            names = {"a": truncated(p, n), "b": numbers(p), "c": Algebra(p, DUAL)}
            for line in ("product x a b", "product x b a", "tensor x a c", "tensor x c a"):
                self.check_error(names, line, "refused large")
            self.assertEqual(reply_to(names, "tensor x a b").kind, "algebra")

    def test_radical(self):
        for p in PRIMES:
            names = names_of(p)
            for a in ("dual", "tri"):
                for b in ("dual", "tri", "one", "mat", "f"):
                    self.check_error(names, f"isomorphic {a} {b}", "refused radical")
                    self.check_error(names, f"isomorphic {b} {a}", "refused radical")


class AnswersTest(unittest.TestCase):

    def answer(self, line, **names):
        reply = unchanged(self, reply_to, names, line)
        self.assertIs(reply.__class__, Reply)
        self.assertIs(defined(names, line), None)
        self.assertIs(is_right(names, (line, reply)), True)
        return fields_of(reply)

    def check_algebra(self, algebra):
        kind, text, data = self.answer("radical a", a=algebra)
        self.assertEqual(kinds_of((kind, text)), kinds_of(("number", str(len(radical(algebra))))))
        self.assertIs(takes_radical(algebra, data), True)
        self.assertEqual(kinds_of(data), kinds_of(radical_paper(algebra)))
        kind, text, data = self.answer("structure a", a=algebra)
        self.assertEqual((kind, text), ("structure", "; ".join(f"{m} {d}" for m, d in wedderburn_type(algebra))))
        self.assertIs(takes_radical(algebra, data), True)
        kind, text, data = self.answer("primitive a", a=algebra)
        self.assertEqual((kind, text), ("number", str(len(primitive_decomposition(algebra)))))
        self.assertIs(takes_primitive(algebra, data), True)
        self.assertEqual(kinds_of(self.answer("show a", a=algebra)), kinds_of(("algebra", str(algebra), ())))
        for word, number in (("index", radical_index(algebra)), ("centre", len(centre(algebra))),
                             ("blocks", len(block_idempotents(algebra))), ("units", unit_count(algebra))):
            self.assertEqual(kinds_of(self.answer(f"{word} a", a=algebra)), kinds_of(("number", str(number), ())))

    def test_small_algebras(self):
        for algebra in list(small_algebras().values())[::2]:
            self.check_algebra(algebra)

    def test_larger_algebras(self):
        for algebra in larger_algebras():
            self.check_algebra(algebra)

    def test_known_ones(self):
        for p in PRIMES:
            names = names_of(p)
            for line, wanted in (("radical mat", "0"), ("structure mat", "2 1"), ("primitive mat", "2"),
                                 ("radical tri", "1"),
                                 ("structure tri", "1 1; 1 1"), ("primitive tri", "2"), ("structure f", "1 2"),
                                 ("index f", "1"),
                                 ("index dual", "2"), ("centre mat", "1"), ("centre dual", "2"), ("blocks pairs", "2"),
                                 ("blocks tri", "1"), ("units f", str(p * p - 1)), ("units dual", str(p * p - p)),
                                 ("units mat", str((p * p - 1) * (p * p - p))), ("units one", str(p - 1))):
                self.assertEqual(reply_to(names, line).text, wanted)
        names = {"g": group_algebra(2, dihedral_table(6)), "m": direct_product(matrix_algebra(2, 3), field(2, 3))}
        self.assertEqual(reply_to(names, "structure g").text, "1 1; 2 1")
        self.assertEqual(reply_to(names, "structure m").text, "1 3; 3 1")
        self.assertEqual(reply_to(names, "units m").text, str(168 * 7))

    def test_known_types(self):
        for algebra, wanted in list(type_cases())[::3]:
            self.assertEqual(self.answer("structure a", a=algebra)[1], "; ".join(f"{m} {d}" for m, d in wanted))

    def test_isomorphic(self):
        algebras = [algebra for algebra in list(small_algebras().values())[::2] + larger_algebras() if is_semisimple(algebra)]
        answers = {"yes": 0, "no": 0}
        for one in algebras:
            for two in algebras:
                if one.p == two.p:
                    kind, text, data = self.answer("isomorphic a b", a=one, b=two)
                    self.assertEqual(kind, "isomorphic")
                    self.assertEqual(text, "yes" if wedderburn_type(one) == wedderburn_type(two) else "no")
                    if text == "yes":
                        self.assertIs(takes_map(one, two, data), True)
                        self.assertEqual(kinds_of(data), kinds_of(map_paper(one, two)))
                    else:
                        self.assertEqual(kinds_of(data), kinds_of(("unlike", radical_paper(one), radical_paper(two))))
                    answers[text] += 1
        self.assertGreater(min(answers.values()), 15)

    def test_isomorphic_in_unlike_bases(self):
        for seed, algebra in enumerate(larger_algebras()):
            if is_semisimple(algebra):
                other = changed(algebra, drawn_basis(algebra, seed))
                self.assertEqual(self.answer("isomorphic a b", a=algebra, b=other)[1], "yes")
                self.assertEqual(self.answer("isomorphic b a", a=algebra, b=other)[1], "yes")
                self.assertEqual(self.answer("isomorphic a a", a=algebra)[1], "yes")

    def test_empty_lines(self):
        for line in ("", " ", "    ", "#", "# show a", "#show none"):
            self.assertEqual(kinds_of(self.answer(line)), kinds_of(("done", "", ())))


class IsRightTest(unittest.TestCase):

    def check_right(self, names, line, *fields):
        self.assertIs(unchanged(self, is_right, names, (line, Reply(*fields))), True)

    def check_wrong(self, names, line, *fields):
        self.assertIs(unchanged(self, is_right, names, (line, Reply(*fields))), False, (line, fields))

    def check_changes(self, names, line):
        """A reply is right; with another text, kind or data it is not."""
        kind, text, data = fields_of(reply_to(names, line))
        self.check_right(names, line, kind, text, data)
        for other in ("", text + " ", " " + text, text + "0", "yes", "no", "0", "1", "17", "1 1", "text", None, 0, 1,
                      (text,), [text]):
            if other != text:
                self.check_wrong(names, line, kind, other, data)
        for other in ("number", "structure", "isomorphic", "algebra", "done", "error", "", "Number", kind + " ", None,
                      0, (kind,)):
            if other != kind:
                self.check_wrong(names, line, other, text, data)
        for other in ODD_VALUES + (list(data), data + (1,), data + ((),), (data,), data[:-1], (True,), ([],),
                                   ("unlike",), ("radical",),
                                   ("unlike", (), ()), ("unlike", 1, 2), Reply("a"), structure(numbers(2))):
            if kinds_of(other) != kinds_of(data):
                self.check_wrong(names, line, kind, text, other)
        for error in ERRORS:
            if (kind, text) != ("error", error):
                self.check_wrong(names, line, "error", error)
                self.check_wrong(names, line, "error", error, data)
        if kind == "error":
            for wrong in (("number", "0"), ("done", ""), ("algebra", DUAL_TEXT), ("isomorphic", "yes"),
                          ("structure", "1 1")):
                self.check_wrong(names, line, *wrong)

    def test_all_kinds_of_lines(self):
        for p in (2, 3):
            names = names_of(p)
            for line in (f"let a = {names['dual']}", f"matrices a {p} 2", f"triangular a {p} 2", "product a one dual",
                         "tensor a f dual",
                         "opposite a tri", "quotient a mixed", "show mat", "radical mixed", "radical mat",
                         "structure mixed",
                         "structure f", "primitive mixed", "primitive dual", "isomorphic mat turned",
                         "isomorphic one pairs",
                         "isomorphic f pairs", "index tri", "centre mat", "blocks pairs", "units tri", "", "  ", "# a"):
                self.assertNotEqual(reply_to(names, line).kind, "error", line)
                self.check_changes(names, line)

    def test_errors(self):
        names = names_of(2)
        for line in ("x", "show", "show missing", "radical missing", "structure missing", "primitive missing",
                     "isomorphic one missing",
                     "isomorphic missing one", "isomorphic one other", "isomorphic dual one", "isomorphic one dual",
                     "matrices a 4 2",
                     "matrices a 2 4", "product a one other", "tensor a missing one", "opposite a missing", " #",
                     "units missing"):
            self.assertEqual(reply_to(names, line).kind, "error")
            self.check_changes(names, line)

    def test_values_that_are_no_lines(self):
        for value in ODD_VALUES + (b"a", ["show one"], ("show one",), {}, Reply("error", "text")):
            if value != "":
                self.check_right({"one": numbers(2)}, value, "error", "text")
                for wrong in (("done",), ("error",), ("error", "malformed"), ("error", "text", (1,)),
                              ("error", "text", []),
                              ("number", "0"), ("Error", "text")):
                    self.check_wrong({"one": numbers(2)}, value, *wrong)

    def test_other_papers_that_are_accepted(self):
        for algebra in (direct_product(field(2), truncated(2, 3)), direct_product(numbers(3), truncated(3, 2)),
                        numbers(5, 3),
                        triangular_algebra(7, 2)):
            names = {"a": algebra}
            word, space, k, blocks = radical_paper(algebra)
            pairs = "; ".join(f"{m} {d}" for m, d in wedderburn_type(algebra))
            others = [(word, space, k, blocks[::-1]), (word, space, k, blocks[1:] + blocks[:1])]
            others += [(word, space, k + 1, blocks), (word, space, 10 ** 30, blocks[::-1])] if space else []
            for paper in others:
                self.assertNotEqual(paper, radical_paper(algebra))
                self.assertIs(takes_radical(algebra, paper), True)
                self.check_right(names, "radical a", "number", str(len(space)), paper)
                self.check_right(names, "structure a", "structure", pairs, paper)
                self.check_wrong(names, "radical a", "number", str(len(space) + 1), paper)
                self.check_wrong(names, "radical a", "structure", pairs, paper)
                self.check_wrong(names, "structure a", "number", str(len(space)), paper)
                self.check_wrong(names, "structure a", "structure", pairs[:-1] + "9", paper)
                self.check_wrong(names, "primitive a", "number", str(len(space)), paper)
            if len(set(wedderburn_type(algebra))) > 1:
                turned = "; ".join(f"{m} {d}" for m, d in wedderburn_type(algebra)[::-1])
                self.check_wrong(names, "structure a", "structure", turned, others[0])
            paper = ("primitive", primitive_paper(algebra)[1][::-1])
            self.assertNotEqual(paper, primitive_paper(algebra))
            self.check_right(names, "primitive a", "number", str(len(paper[1])), paper)
            self.check_wrong(names, "primitive a", "number", str(len(paper[1]) + 1), paper)
            self.check_wrong(names, "radical a", "number", str(len(paper[1])), paper)

    def test_papers_that_are_not_accepted(self):
        for algebra in (direct_product(field(2), truncated(2, 3)), direct_product(numbers(3), truncated(3, 2))):
            names = {"a": algebra}
            word, space, k, blocks = radical_paper(algebra)
            pairs = "; ".join(f"{m} {d}" for m, d in wedderburn_type(algebra))
            for paper in ((word, space, k - 1, blocks), (word, space, k, blocks[:-1]),
                          (word, space, k, blocks + blocks[:1]),
                          (word, space[:-1], k, blocks), (word, (), 1, blocks), (word, space, k, ()),
                          (word, space, True, blocks),
                          (word, list(space), k, blocks), (word, space, k, list(blocks)),
                          ("primitive", space, k, blocks),
                          radical_paper(numbers(algebra.p)), (word, space, k), (word, space, k, blocks, ())):
                self.assertIs(takes_radical(algebra, paper), False)
                self.check_wrong(names, "radical a", "number", str(len(space)), paper)
                self.check_wrong(names, "structure a", "structure", pairs, paper)
            word, parts = primitive_paper(algebra)
            for paper in ((word, parts[:-1]), (word, parts + parts[:1]), (word, list(parts)), (word, ()),
                          ("radical", parts), (word,),
                          (word, parts, ()), primitive_paper(numbers(algebra.p))):
                self.check_wrong(names, "primitive a", "number", str(len(parts)), paper)
                self.check_wrong(names, "primitive a", "number", str(len(paper[1]) if len(paper) > 1 else 0), paper)

    def test_isomorphic_yes(self):
        for p in PRIMES:
            names = {"a": numbers(p, 3), "b": changed(numbers(p, 3), [(1, 1, 0), (0, 1, 1), (0, 0, 1)]),
                     "c": numbers(p, 2)}
            one, two = map_paper(names["a"], names["b"]), map_paper(names["b"], names["a"])
            self.assertNotEqual(one, two)
            self.check_right(names, "isomorphic a b", "isomorphic", "yes", one)
            self.check_right(names, "isomorphic b a", "isomorphic", "yes", two)
            # The papers of the two algebras in the wrong order.
            self.assertIs(takes_map(names["a"], names["b"], two), False)
            self.check_wrong(names, "isomorphic a b", "isomorphic", "yes", two)
            self.check_wrong(names, "isomorphic b a", "isomorphic", "yes", one)
            self.check_wrong(names, "isomorphic a b", "isomorphic", "no", one)
            self.check_wrong(names, "isomorphic a c", "isomorphic", "yes", one)
            # Another paper that is accepted: the pairs turned.
            for images in (((1, 0), (0, 1)), ((0, 1), (1, 0))):
                self.check_right(names, "isomorphic c c", "isomorphic", "yes", ("map", images))
                self.check_wrong(names, "isomorphic c c", "isomorphic", "no", ("map", images))
                self.check_wrong(names, "isomorphic c c", "isomorphic", "yes", ("map", list(images)))

    def test_isomorphic_no(self):
        for p in PRIMES:
            names = {"a": field(p), "b": numbers(p, 2), "c": changed(numbers(p, 2), [(1, 1), (0, 1)]), "d": numbers(p)}
            papers = {name: radical_paper(algebra) for name, algebra in names.items()}
            for a in "abcd":
                for b in "abcd":
                    right = wedderburn_type(names[a]) != wedderburn_type(names[b])
                    data = ("unlike", papers[a], papers[b])
                    line = f"isomorphic {a} {b}"
                    # With equal pairs it is wrong.
                    self.assertIs(is_right(names, (line, Reply("isomorphic", "no", data))), right)
                    self.check_wrong(names, line, "isomorphic", "yes", data)
                    if right:
                        turned = ("unlike", papers[a][:3] + (papers[a][3][::-1],),
                                  papers[b][:3] + (papers[b][3][::-1],))
                        self.check_right(names, line, "isomorphic", "no", turned)
                        for wrong in (("unlike", papers[b], papers[a]), ("unlike", papers[a], papers[a]),
                                      ("unlike", papers[b], papers[b]),
                                      ("unlike", papers[a]), data + (papers[a],), ("Unlike", papers[a], papers[b]),
                                      list(data),
                                      ("like", papers[a], papers[b]), ("unlike", list(papers[a]), papers[b]),
                                      (None, *data[1:]),
                                      ("unlike", papers[a], list(papers[b])), ("unlike", papers[a], None), data[1:],
                                      ("map", *data[1:])):
                            self.check_wrong(names, line, "isomorphic", "no", wrong)

    def test_isomorphic_with_a_radical(self):
        for p in PRIMES:
            names = {"d": Algebra(p, DUAL), "t": triangular_algebra(p, 2), "o": opposite(triangular_algebra(p, 2)),
                     "n": numbers(p, 2)}
            papers = {name: radical_paper(algebra) for name, algebra in names.items()}
            for a in "dton":
                for b in "dton":
                    if (a, b) != ("n", "n"):
                        line = f"isomorphic {a} {b}"
                        self.check_right(names, line, "error", "refused radical")
                        # Both papers are accepted, but a space has elements.
                        self.check_wrong(names, line, "isomorphic", "no", ("unlike", papers[a], papers[b]))
            # The error is right, and so is a map that the checker accepts.
            self.check_right(names, "isomorphic d d", "isomorphic", "yes", ("map", ((1, 0), (0, 1))))
            self.check_right(names, "isomorphic d d", "isomorphic", "yes", ("map", ((1, 0), (0, p - 1))))
            self.check_wrong(names, "isomorphic d d", "isomorphic", "yes", ("map", ((1, 0), (0, 0))))
            self.check_wrong(names, "isomorphic d d", "isomorphic", "no", ("map", ((1, 0), (0, 1))))
            self.check_right(names, "isomorphic t o", "isomorphic", "yes", ("map", ((0, 0, 1), (0, 1, 0), (1, 0, 0))))

    def test_isomorphic_over_unlike_p(self):
        names = {"a": numbers(2), "b": numbers(3), "c": field(3)}
        papers = {name: radical_paper(algebra) for name, algebra in names.items()}
        for a, b in (("a", "b"), ("b", "a"), ("a", "c"), ("c", "a")):
            line = f"isomorphic {a} {b}"
            self.check_right(names, line, "error", "malformed")
            self.check_wrong(names, line, "isomorphic", "yes", ("map", ((1,),)))
            self.check_wrong(names, line, "isomorphic", "no", ("unlike", papers[a], papers[b]))

    def test_missing_names(self):
        names = {"a": numbers(2)}
        paper, parts = radical_paper(numbers(2)), primitive_paper(numbers(2))
        for line, kind, text, data in (("radical b", "number", "0", paper), ("structure b", "structure", "1 1", paper),
                                       ("primitive b", "number", "1", parts),
                                       ("isomorphic a b", "isomorphic", "yes", ("map", ((1,),))),
                                       ("isomorphic b a", "isomorphic", "yes", ("map", ((1,),)))):
            self.check_wrong(names, line, kind, text, data)
            self.check_right(names, line, "error", "refused name")
            self.check_right({"a": numbers(2), "b": numbers(2)}, line, kind, text, data)
            self.check_wrong({"a": numbers(2), "b": numbers(2)}, line, "error", "refused name")

    def test_values_that_are_no_entries(self):
        names = {"one": numbers(2)}
        reply = reply_to(names, "show one")
        self.assertIs(is_right(names, ("show one", reply)), True)
        for value in ODD_VALUES + (["show one", reply], ("show one",), ("show one", reply, reply),
                                   ("show one", fields_of(reply)),
                                   ("show one", str(reply)), ("show one", None), (reply, "show one"), reply, "show one",
                                   b"", {},
                                   {"show one": reply}, [("show one", reply)], (("show one", reply),),
                                   ("show one", [reply]),
                                   ("show one", vars(reply)), (reply, reply)):
            self.assertIs(is_right(names, value), False, value)
        for line in ("radical one", "structure one", "primitive one", "isomorphic one one", "index one", "", "x",
                     "let a = 2 1: 1"):
            for value in ODD_VALUES + (reply_to(names, line).data, fields_of(reply_to(names, line)),
                                       vars(reply_to(names, line))):
                self.assertIs(is_right(names, (line, value)), False)

    def test_texts_that_no_data_show(self):
        names = {"one": numbers(2), "f": field(2)}
        for line, kind in (("radical f", "number"), ("structure f", "structure"), ("primitive f", "number"),
                           ("isomorphic one f", "isomorphic"), ("isomorphic f f", "isomorphic")):
            for text in (None, "None", "", "0", "1", "no", "yes"):
                for data in ((), None, ("radical",), ("unlike", None, None), 0, ("map", ())):
                    self.check_wrong(names, line, kind, text, data)


if __name__ == "__main__":
    unittest.main()
