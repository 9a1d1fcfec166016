"""The names and arguments of the interface, each defined in the file under which it is listed."""

import importlib
import inspect
import unittest
from pathlib import Path

from algebraparts.algebra import Algebra
from algebraparts.errors import NoText, Refused
from algebraparts.modules import Module
from algebraparts.replies import Reply
from algebraparts.structure import structure

PACKAGE = Path(__file__).resolve().parent.parent / "algebraparts"

FUNCTIONS = {
    "whole": ("is_integer(value)", "power(a, k)", "divisors(n)", "inverse(a, p)"),
    "linear": (
        "is_row(value, p, n)", "add(v, w, p)", "scaled(v, a, p)", "dot(v, w, p)", "combine(rows, weights, width, p)",
        "reduced(rows, width, p)", "span(rows, width, p)", "kernel(rows, width, p)", "relations(rows, width, p)",
        "solve(rows, width, right, p)", "coordinates(rows, v, p)", "rest(space, v, p)", "space_holds(space, v, p)",
        "sum_of(a, b, width, p)", "common_part(a, b, width, p)", "members(space, width, p)",
    ),
    "algebra": ("read_algebra(text)",),
    "build": (
        "matrix_algebra(p, m)", "triangular_algebra(p, m)", "polynomial_quotient(p, f)", "direct_product(a, b)",
        "tensor_product(a, b)", "opposite(a)", "changed(a, rows)", "meant(a, rows, x)",
    ),
    "groups": (
        "cyclic_table(n)", "dihedral_table(n)", "direct_table(one, two)", "is_group(value)", "group_algebra(p, table)",
    ),
    "ideals": (
        "span(algebra, rows)", "is_space(algebra, value)", "left_ideal(algebra, rows)", "right_ideal(algebra, rows)",
        "ideal(algebra, rows)", "is_left_ideal(algebra, value)", "is_right_ideal(algebra, value)",
        "is_ideal(algebra, value)", "products(algebra, one, two)", "power_of(algebra, space, k)",
        "nilpotency(algebra, space)", "left_annihilator(algebra, space)", "right_annihilator(algebra, space)",
        "quotient(algebra, space)", "quotient_image(algebra, space, x)", "quotient_lift(algebra, space, y)",
        "image_space(algebra, space, u)", "lifted_space(algebra, space, classes)",
    ),
    "centre": (
        "centralizer(algebra, rows)", "centre(algebra)", "commutator_space(algebra)",
        "generated_algebra(algebra, rows)", "is_commutative(algebra)", "minimal_polynomial(algebra, x)",
        "value_at(algebra, f, x)", "is_unit(algebra, x)", "is_nilpotent(algebra, x)", "inverse(algebra, x)",
        "zero_partner(algebra, x)", "units(algebra)",
    ),
    "radical": ("radical(algebra)", "radical_powers(algebra)", "radical_index(algebra)", "is_semisimple(algebra)"),
    "lifting": ("is_idempotent(algebra, x)", "lifted(algebra, ideal, x)", "lifted_system(algebra, ideal, rows)"),
    "idempotents": (
        "block_idempotents(algebra)", "is_connected(algebra)", "corner(algebra, e)", "is_primitive(algebra, e)",
        "primitive_decomposition(algebra)", "linking(algebra, e, f)", "kinds(algebra, idempotents)",
        "basic_idempotents(algebra)", "between(algebra, e, f)", "peirce_parts(algebra, idempotents)",
    ),
    "structure": (
        "structure(algebra)", "wedderburn_type(algebra)", "matrix_at(algebra, block, x)", "unit_count(algebra)",
    ),
    "modules": (
        "regular(algebra)", "direct_sum(a, b)", "submodule(module, vectors)", "is_submodule(module, value)",
        "restricted(module, space)", "quotient_module(module, space)",
    ),
    "homs": ("homomorphisms(a, b)", "degree(module)", "find_isomorphism(a, b)"),
    "series": (
        "is_simple(module)", "module_radical(module)", "socle(module)", "loewy_length(module)",
        "projective(algebra, e)",
        "simple_modules(algebra)", "multiplicities(module)", "cartan_matrix(algebra)", "composition_series(module)",
    ),
    "papers": ("radical_paper(algebra)", "primitive_paper(algebra)", "map_paper(a, b)"),
    "checker": ("takes_radical(algebra, paper)", "takes_primitive(algebra, paper)", "takes_map(a, b, paper)"),
    "sheet": ("read_line(line)",),
    "replies": ("reply_to(names, line)", "defined(names, line)", "is_right(names, entry)"),
    "log": (
        "write_data(data)", "read_data(text)", "write_log(entries)", "read_log(text)", "first_wrong(entries)",
    ),
    "paths": ("incidence_algebra(p, n, pairs)", "path_algebra(p, n, arrows)"),
}

CLASSES = {
    "errors": {"Fault": (), "Malformed": (), "Refused": ("__init__(self, reason)",), "NoText": ("__init__(self, at)",)},
    "algebra": {
        "Algebra": (
            "__init__(self, p, table)", "__eq__(self, other)", "__str__(self)", "is_element(self, value)", "zero(self)",
            "basis(self, i)", "all_elements(self)", "add(self, x, y)", "subtract(self, x, y)", "scaled(self, c, x)",
            "multiply(self, x, y)", "power(self, x, k)", "left(self, x)", "right(self, x)",
        ),
    },
    "structure": {"Block": ("__eq__(self, other)",)},
    "modules": {
        "Module": (
            "__init__(self, algebra, m, tables)", "__eq__(self, other)", "is_vector(self, value)", "act(self, x, v)",
        ),
    },
    "replies": {"Reply": ("__init__(self, kind, text='', data=())", "__eq__(self, other)")},
    "console": {
        "Console": (
            "__init__(self, *, most=300)", "enter(self, line)", "__len__(self)", "__iter__(self)", "names(self)",
            "log(self)",
        ),
    },
}


class InterfaceTest(unittest.TestCase):

    def test_functions(self):
        for module_name, signatures in FUNCTIONS.items():
            module = importlib.import_module("algebraparts." + module_name)
            for signature in signatures:
                name = signature.partition("(")[0]
                function = getattr(module, name)
                self.assertTrue(inspect.isfunction(function))
                self.assertEqual(function.__module__, "algebraparts." + module_name)
                self.assertEqual(name + str(inspect.signature(function)), signature)

    def test_classes(self):
        for module_name, classes in CLASSES.items():
            module = importlib.import_module("algebraparts." + module_name)
            for class_name, signatures in classes.items():
                found = getattr(module, class_name)
                self.assertTrue(inspect.isclass(found))
                self.assertEqual(found.__module__, "algebraparts." + module_name)
                for signature in signatures:
                    name = signature.partition("(")[0]
                    self.assertIn(name, vars(found))
                    self.assertEqual(name + str(inspect.signature(vars(found)[name])), signature)

    def test_generators(self):
        from algebraparts.centre import units
        from algebraparts.linear import members
        self.assertTrue(inspect.isgeneratorfunction(members))
        self.assertTrue(inspect.isgeneratorfunction(units))
        self.assertTrue(inspect.isgeneratorfunction(Algebra.all_elements))

    def test_fields_are_set_on_each_object(self):
        self.assertEqual(vars(Refused("unit")), {"reason": "unit"})
        self.assertEqual(vars(NoText(3)), {"at": 3})
        self.assertLessEqual({"p", "n", "table", "one"}, set(vars(Algebra(2, [[(1,)]]))))

        algebra = Algebra(2, [[(1,)]])
        self.assertLessEqual({"m", "d", "units", "generator", "polynomial"}, set(vars(structure(algebra)[0])))
        self.assertLessEqual({"algebra", "m", "tables"}, set(vars(Module(algebra, 0, [[]]))))
        self.assertLessEqual({"kind", "text", "data"}, set(vars(Reply("done"))))

    def test_the_package_defines_nothing(self):
        self.assertEqual((PACKAGE / "__init__.py").read_text(), "")


if __name__ == "__main__":
    unittest.main()
