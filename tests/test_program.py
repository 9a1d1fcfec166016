"""What is promised over the whole program."""

import ast
import doctest
import unittest
from pathlib import Path
from random import Random

from algebras import DUAL, drawn_algebras, field, numbers, small_algebras, truncated
from plain_checker import drawn_change
from samples import PRIMES, drawn_basis, kinds_of, pieces_of
from test_interface import CLASSES, FUNCTIONS

from algebraparts import (
    algebra, build, centre, checker, groups, homs, ideals, idempotents, lifting, linear, log, modules, papers, paths,
    radical,
    replies, series, sheet, structure, whole,
)
from algebraparts.algebra import Algebra
from algebraparts.build import matrix_algebra, triangular_algebra
from algebraparts.console import Console
from algebraparts.modules import Module, regular
from algebraparts.replies import Reply

HERE = Path(__file__).resolve().parent
PACKAGE = HERE.parent / "algebraparts"
CHAPTERS = (
    ("errors", "whole", "linear"), ("algebra", "build", "groups", "paths"), ("ideals", "centre"),
    ("radical", "lifting"),
    ("idempotents",), ("structure",), ("modules", "homs", "series"), ("papers", "checker"),
    ("sheet", "replies", "log", "console"),
)
MODULES = {
    "algebra": algebra, "build": build, "centre": centre, "checker": checker, "groups": groups, "homs": homs,
    "ideals": ideals,
    "idempotents": idempotents, "lifting": lifting, "linear": linear, "log": log, "modules": modules, "papers": papers,
    "paths": paths, "radical": radical, "replies": replies, "series": series, "sheet": sheet, "structure": structure,
    "whole": whole,
}


def arguments_of(one):
    """Arguments for each function of the interface, over an algebra."""
    p, n = one.p, one.n
    rows = [one.basis(i) for i in range(n)]
    lower = radical.radical(one)
    parts = idempotents.primitive_decomposition(one)
    module = regular(one)
    names = {"a": one, "b": numbers(p)}
    line = f"let c = {one}"
    entry = ("radical a", replies.reply_to(names, "radical a"))
    entries = [(line, replies.reply_to({}, line)), ("show c", Reply("algebra", str(one)))]
    x, e = rows[-1], parts[0]
    space = (x, ) if linear.is_reduced((x,), p, n) else ()
    top = ideals.quotient(one, lower)
    return {
        "is_integer": (n,), "power": (3, n), "divisors": (12,), "inverse": {"whole": (3 if p != 3 else 2, p),
                                                                            "centre": (one, one.one)},
        "is_row": (x, p, n), "add": (x, e, p), "scaled": (x, 2, p), "dot": (x, e, p), "combine": (rows, [1] * n, n, p),
        "reduced": (rows, n, p), "kernel": (rows[:1], n, p), "relations": (rows + [x], n, p),
        "span": {"linear": (rows[1:], n, p), "ideals": (one, rows[1:])}, "solve": (rows, n, list(x), p),
        "coordinates": (rows, x, p),
        "rest": (space, e, p), "space_holds": (space, e, p), "sum_of": (space, lower, n, p),
        "common_part": (space, lower, n, p),
        "members": (lower, n, p), "read_algebra": (str(one),), "matrix_algebra": (p, 1), "triangular_algebra": (p, 2),
        "polynomial_quotient": (p, [1, 1]), "direct_product": (one, names["b"]), "tensor_product": (one, names["b"]),
        "opposite": (one,),
        "changed": (one, rows[::-1]), "meant": (one, rows[::-1], x), "cyclic_table": (3,), "dihedral_table": (2,),
        "direct_table": (((0, 1), (1, 0)), ((0,),)), "is_group": ([[0, 1], [1, 0]],),
        "group_algebra": (p, [[0, 1], [1, 0]]),
        "incidence_algebra": (p, 2, [(0, 1)]), "path_algebra": (p, 2, [(0, 1)]), "is_space": (one, lower),
        "left_ideal": (one, [x]), "right_ideal": (one, [x]), "ideal": (one, [x]), "is_left_ideal": (one, lower),
        "is_right_ideal": (one, lower), "is_ideal": (one, lower), "products": (one, [x], rows),
        "power_of": (one, lower, 2),
        "nilpotency": (one, lower), "left_annihilator": (one, lower), "right_annihilator": (one, lower),
        "quotient": (one, lower),
        "quotient_image": (one, lower, x), "quotient_lift": (one, lower, top.one), "image_space": (one, lower, lower),
        "lifted_space": (one, lower, ()), "centralizer": (one, [x]), "generated_algebra": (one, [x]),
        "minimal_polynomial": (one, x),
        "value_at": (one, (1, 1), x), "is_unit": (one, x), "is_nilpotent": (one, x), "zero_partner": (one, x),
        "units": (one,),
        "is_idempotent": (one, e), "lifted": (one, lower, e), "lifted_system": (one, lower, list(parts)),
        "corner": (one, e),
        "is_primitive": (one, e), "linking": (one, e, parts[-1]), "kinds": (one, list(parts)), "between": (one, e, x),
        "peirce_parts": (one, list(parts)), "matrix_at": (one, structure.structure(one)[0], x),
        "direct_sum": (module, module),
        "submodule": (module, [x]), "is_submodule": (module, lower), "restricted": (module, lower),
        "quotient_module": (module, lower),
        "homomorphisms": (module, module), "find_isomorphism": (module, module), "projective": (one, e),
        "map_paper": (top, top),
        "takes_radical": (one, papers.radical_paper(one)), "takes_primitive": (one, papers.primitive_paper(one)),
        "takes_map": (one, one, ("map", tuple(rows))), "read_line": (line,), "reply_to": (names, "structure a"),
        "defined": (names, "product c a b"), "is_right": (names, entry), "write_data": ((1, ("a", -2)),),
        "read_data": ("(1 (a -2))",),
        "write_log": (entries,), "read_log": (log.write_log(entries),), "first_wrong": (entries,),
        "of algebra": (one,), "of module": (module,),
    }


class InterfaceExamplesTest(unittest.TestCase):

    def test_examples(self):
        result = doctest.testfile(str(HERE / "examples.txt"), module_relative=False)
        self.assertEqual(result.failed, 0)
        self.assertEqual(result.attempted, 28)


class ChaptersTest(unittest.TestCase):

    def test_each_chapter_uses_only_those_before_it(self):
        number = {name: k for k, names in enumerate(CHAPTERS) for name in names}
        self.assertEqual(set(number) | {"__init__"}, {path.stem for path in PACKAGE.glob("*.py")})
        for name, k in number.items():
            for node in ast.walk(ast.parse((PACKAGE / (name + ".py")).read_text())):
                if isinstance(node, ast.ImportFrom):
                    self.assertLessEqual(number[node.module.rpartition(".")[2]], k, (name, node.module))

    def test_the_interface_is_complete(self):
        self.assertEqual(set(FUNCTIONS) | set(CLASSES), {name for names in CHAPTERS for name in names})


class EachFunctionTest(unittest.TestCase):

    def test_arguments_are_not_changed_and_results_are_equal(self):
        for one in (Algebra(2, DUAL), triangular_algebra(3, 2), matrix_algebra(2, 2), field(5), numbers(7, 2)):
            table = arguments_of(one)
            for name, signatures in FUNCTIONS.items():
                for signature in signatures:
                    word, _, rest = signature.partition("(")
                    default = table["of module"] if rest.startswith("module") else table["of algebra"]
                    arguments = table.get(word, default)
                    if isinstance(arguments, dict):
                        arguments = arguments[name]
                    self.check_call(getattr(MODULES[name], word), arguments)

    def check_call(self, function, arguments):
        before = pieces_of(arguments)
        results = []
        for _ in range(2):
            result = function(*arguments)
            results.append(pieces_of(list(result) if result.__class__.__name__ == "generator" else result))
        self.assertEqual(results[0], results[1], function.__name__)
        self.assertEqual(before, pieces_of(arguments), function.__name__)

    def test_methods_change_no_object(self):
        for one in (Algebra(2, DUAL), triangular_algebra(3, 2), numbers(7, 2)):
            before = pieces_of(one)
            x, y = one.basis(0), one.one
            for _ in range(2):
                calls = (one == one, str(one), one.is_element(x), one.zero(), one.basis(1), list(one.all_elements()),
                         one.add(x, y),
                         one.subtract(x, y), one.scaled(2, x), one.multiply(x, y), one.power(x, 3), one.left(x),
                         one.right(x))
                self.assertEqual(pieces_of(calls), pieces_of(calls))
                self.assertEqual(pieces_of(one), before)
            module = Module(one, one.n, one.table)
            before = pieces_of(module)
            self.assertEqual(module.act(x, y), module.act(x, y))
            self.assertIs(module.is_vector(x), module == module)
            self.assertEqual(pieces_of(module), before)
        console = Console()
        console.enter("matrices a 2 2")
        reply = console.enter("radical a")
        before = pieces_of(reply)
        console.enter("structure a")
        self.assertEqual((len(console), console.log(), pieces_of(reply)), (3, console.log(), before))


class MainFactsTest(unittest.TestCase):

    def test_accepted_papers_show_the_radical_and_the_type(self):
        # Also drawn papers, where they are accepted.
        random = Random(8)
        accepted = 0
        for one in list(small_algebras().values()) + list(drawn_algebras().values()):
            paper = papers.radical_paper(one)
            for _ in range(12):
                other = drawn_change(random, one, paper)
                if checker.takes_radical(one, other):
                    accepted += other != paper
                    self.assertEqual(kinds_of(other[1]), kinds_of(radical.radical(one)))
                    pairs = sorted((len(table), len(f) - 1) for table, _, f in other[3])
                    self.assertEqual(tuple(pairs), structure.wedderburn_type(one))
        self.assertGreater(accepted, 20)

    def test_isomorphic_exactly_if_the_types_are_equal(self):
        found = [one for one in list(small_algebras().values())[::2] if radical.is_semisimple(one)]
        for one in found:
            for two in found:
                if one.p == two.p:
                    same = structure.wedderburn_type(one) == structure.wedderburn_type(two)
                    self.assertEqual(papers.map_paper(one, two) is not None, same)

    def test_decompositions_have_as_many_parts(self):
        for seed, one in enumerate(small_algebras().values()):
            many = len(idempotents.primitive_decomposition(one))
            rows = drawn_basis(one, seed)
            other = build.changed(one, rows)
            self.assertEqual(len(idempotents.primitive_decomposition(other)), many)
            self.assertEqual(len(papers.primitive_paper(other)[1]), many)

    def test_composition_series_are_as_long_as_the_multiplicities_tell(self):
        for one in list(small_algebras().values()) + [truncated(p, 3) for p in PRIMES]:
            module = regular(one)
            self.assertEqual(len(series.composition_series(module)) - 1, sum(series.multiplicities(module)))


if __name__ == "__main__":
    unittest.main()
