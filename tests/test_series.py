"""Simple modules, composition series and the Cartan matrix: algebraparts.series."""

import unittest

from algebras import DUAL, drawn_algebras, field, least_algebras, members_of, numbers, truncated
from samples import PRIMES, check_malformed, kinds_of, spanned, unchanged
from shapes import (
    all_modules, every_submodule, families, larger_algebras, plain_series, point_module, table_of_set, turned,
    zero_module,
)
from test_centre import NO_ELEMENTS
from test_modules import closing, columns_module, identity, vectors_of

from algebraparts import linear
from algebraparts.algebra import Algebra
from algebraparts.build import (
    direct_product, matrix_algebra, opposite, polynomial_quotient, tensor_product, triangular_algebra,
)
from algebraparts.groups import cyclic_table, dihedral_table, group_algebra
from algebraparts.homs import degree, find_isomorphism, homomorphisms
from algebraparts.idempotents import basic_idempotents, between, primitive_decomposition
from algebraparts.modules import Module, direct_sum, is_submodule, quotient_module, regular, restricted
from algebraparts.paths import path_algebra
from algebraparts.radical import is_semisimple, radical, radical_index
from algebraparts.series import (
    cartan_matrix, composition_series, is_simple, loewy_length, module_radical, multiplicities, projective,
    simple_modules, socle,
)


def plainly_simple(module):
    """True if the dimension is at least 1, and each vector other than 0 generates all."""
    many = module.algebra.p ** module.m
    return module.m > 0 and all(len(closing(module, [v])) == many for v in vectors_of(module) if any(v))


def looks_simple(module):
    """True if a module is simple, looked up vector by vector where there are few."""
    few = module.algebra.p ** (module.m + module.algebra.n) <= 2048
    return plainly_simple(module) if few else is_simple(module)


def common(sets, whole):
    """The common part of sets; the whole if there are none."""
    out = frozenset(whole)
    for one in sets:
        out = out & one
    return out


def joined(module, sets):
    """The space of the sums of vectors of some sets, as a set."""
    rows = [row for one in sets for row in table_of_set(module, one)]
    return spanned(rows, module.m, module.algebra.p)


def drawn_small():
    """Algebras with at most 64 elements, each with the regular module's 64 vectors."""
    found = list(least_algebras(64).values())
    return found + [algebra for algebra in drawn_algebras().values() if algebra.p ** algebra.n <= 64]


class SimpleTest(unittest.TestCase):

    def test_against_all_submodules(self):
        answers = {True: 0, False: 0}
        for module in all_modules(32):
            found = unchanged(self, is_simple, module)
            self.assertIs(found, plainly_simple(module))
            if len(vectors_of(module)) <= 16:
                self.assertIs(found, len(every_submodule(module)) == 2)
            answers[found] += 1
        self.assertGreater(min(answers.values()), 60)

    def test_the_dimensions_0_and_1(self):
        for p in PRIMES:
            for algebra in (numbers(p), Algebra(p, DUAL), matrix_algebra(p, 2), triangular_algebra(p, 2)):
                self.assertIs(is_simple(zero_module(algebra)), False)
            for counts in ([1], [1, 0], [0, 1, 0]):
                self.assertIs(is_simple(point_module(p, counts)), True)
            self.assertIs(is_simple(Module(Algebra(p, DUAL), 1, [[(1,)], [(0,)]])), True)

    def test_known_ones(self):
        for p in PRIMES:
            self.assertIs(is_simple(columns_module(p, 2)), True)
            self.assertIs(is_simple(regular(field(p))), True)
            self.assertIs(is_simple(regular(matrix_algebra(p, 2))), False)
            self.assertIs(is_simple(regular(numbers(p, 2))), False)
            self.assertIs(is_simple(point_module(p, [2])), False)
            self.assertIs(is_simple(regular(truncated(p, 2))), False)
            self.assertIs(is_simple(direct_sum(columns_module(p, 2), columns_module(p, 2))), False)

    def test_large_ones(self):
        self.assertIs(is_simple(columns_module(2, 3)), True)
        for p, f in ((2, (1, 1, 0, 0, 1, 0, 1) + (0,) * 5 + (1,)), (3, (1, 2, 0, 1))):
            self.assertIs(is_simple(regular(polynomial_quotient(p, f))), True)
        self.assertIs(is_simple(regular(polynomial_quotient(2, (1,) + (0,) * 11 + (1,)))), False)


class RadicalAndSocleTest(unittest.TestCase):

    def test_against_all_submodules(self):
        sizes = set()
        for module in all_modules(32):
            spaces = every_submodule(module)
            whole = frozenset(vectors_of(module))
            proper = [space for space in spaces if space != whole]
            greatest = [space for space in proper if not any(space < other for other in proper)]
            others = [space for space in spaces if len(space) > 1]
            least = [space for space in others if not any(other < space for other in others)]
            lower, upper = unchanged(self, module_radical, module), unchanged(self, socle, module)
            self.assertEqual(kinds_of(lower), kinds_of(table_of_set(module, common(greatest, whole))))
            self.assertEqual(kinds_of(upper), kinds_of(table_of_set(module, joined(module, least))))
            sizes.add((module.m, len(lower), len(upper)))
        self.assertTrue({(0, 0, 0), (1, 0, 1), (2, 0, 2), (2, 1, 1), (3, 1, 2), (3, 2, 1), (3, 2, 2),
                         (4, 1, 3)} <= sizes,
                        sizes)

    def test_by_the_words_of_the_point(self):
        for module in all_modules(49)[::2]:
            algebra, p = module.algebra, module.algebra.p
            lower = radical(algebra)
            products = [module.act(r, v) for r in lower for v in vectors_of(module)]
            self.assertEqual(module_radical(module), linear.span(products, module.m, p))
            wanted = [v for v in vectors_of(module) if all(not any(module.act(r, v)) for r in lower)]
            self.assertEqual(spanned(socle(module), module.m, p), set(wanted))
            self.assertIs(is_submodule(module, socle(module)), True)
            self.assertIs(is_submodule(module, module_radical(module)), True)

    def test_of_regular_modules(self):
        for algebra in drawn_small() + larger_algebras():
            self.assertEqual(module_radical(regular(algebra)), radical(algebra))
        for algebra in larger_algebras():
            if is_semisimple(algebra):
                self.assertEqual(len(socle(regular(algebra))), algebra.n)

    def test_known_ones(self):
        for p in PRIMES:
            self.assertEqual(module_radical(regular(truncated(p, 4))), identity(4)[1:])
            self.assertEqual(socle(regular(truncated(p, 4))), identity(4)[3:])
            # The left socle and the radical of the upper triangular matrices.
            self.assertEqual(socle(regular(triangular_algebra(p, 2))), ((1, 0, 0), (0, 1, 0)))
            self.assertEqual(module_radical(regular(triangular_algebra(p, 2))), ((0, 1, 0),))


class LoewyLengthTest(unittest.TestCase):

    def test_by_repeated_radicals(self):
        seen = set()
        for module in all_modules(64):
            found = unchanged(self, loewy_length, module)
            left, k = module, 0
            while left.m > 0:
                left = restricted(left, module_radical(left))
                k += 1
            self.assertEqual(kinds_of(found), kinds_of(k))
            seen.add((module.m, found))
        self.assertTrue({(0, 0), (1, 1), (2, 1), (2, 2), (3, 1), (3, 2), (3, 3), (4, 4)} <= seen, seen)

    def test_known_ones(self):
        for algebra in drawn_small() + larger_algebras():
            self.assertEqual(loewy_length(regular(algebra)), radical_index(algebra))
        for p, n in ((2, 12), (3, 7), (5, 5), (7, 4)):
            self.assertEqual(loewy_length(regular(truncated(p, n))), n)
            self.assertEqual(loewy_length(point_module(p, [n])), 1)
            self.assertEqual(loewy_length(zero_module(truncated(p, n))), 0)


class ProjectiveTest(unittest.TestCase):

    def check_projective(self, algebra, e, module):
        p = algebra.p
        self.assertIs(module.__class__, Module)
        self.assertTrue(module.algebra == algebra)
        space = linear.span([algebra.multiply(x, e) for x in members_of(algebra)], algebra.n, p)
        self.assertEqual(module.m, len(space))
        for k, u in enumerate(space):
            for i in range(algebra.n):
                image = linear.combine(space, module.tables[i][k], algebra.n, p)
                self.assertEqual(image, algebra.multiply(algebra.basis(i), u))

    def test_all_idempotents(self):
        seen = set()
        for algebra in drawn_small():
            for e in members_of(algebra):
                if algebra.multiply(e, e) == e:
                    module = unchanged(self, projective, algebra, e)
                    self.check_projective(algebra, e, module)
                    seen.add((algebra.n, module.m))
                else:
                    check_malformed(self, projective, algebra, e)
        self.assertTrue({(1, 0), (1, 1), (2, 0), (2, 1), (2, 2), (3, 1), (3, 2), (4, 2), (4, 4)} <= seen, seen)

    def test_0_and_1(self):
        for algebra in drawn_small() + larger_algebras():
            self.assertTrue(projective(algebra, algebra.zero()) == zero_module(algebra))
            self.assertTrue(projective(algebra, algebra.one) == regular(algebra))

    def test_primitive_idempotents(self):
        for algebra in drawn_small() + larger_algebras():
            parts = [projective(algebra, e) for e in primitive_decomposition(algebra)]
            self.assertEqual(sum(part.m for part in parts), algebra.n)
            for part in parts:
                self.assertIs(is_simple(quotient_module(part, module_radical(part))), True)

    def test_other_values(self):
        algebra = truncated(3, 2)
        for value in (*NO_ELEMENTS, (0, 1), (2, 0), (1, 1), ((1, 0),), [1, 0], [(1, 0)], regular(algebra)):
            check_malformed(self, projective, algebra, value)
        self.assertEqual(projective(algebra, (1, 0)).m, 2)


class SimpleModulesTest(unittest.TestCase):

    def check_modules(self, algebra):
        found = unchanged(self, simple_modules, algebra)
        firsts = basic_idempotents(algebra)
        self.assertEqual(kinds_of(found)[0], "tuple")
        self.assertEqual(len(found), len(firsts))
        for i, module in enumerate(found):
            self.assertTrue(module.algebra == algebra)
            self.assertIs(looks_simple(module), True)
            for j, e in enumerate(firsts):
                image = linear.span([module.act(e, v) for v in identity(module.m)], module.m, algebra.p)
                self.assertEqual(len(image), degree(module) if i == j else 0)
            for other in found[:i]:
                self.assertIsNone(find_isomorphism(module, other))
                self.assertEqual(homomorphisms(module, other), ())
            # The quotient of A e by its radical, in the very places that the quotient has.
            part = projective(algebra, firsts[i])
            self.assertTrue(module == quotient_module(part, module_radical(part)))
        return found

    def test_all(self):
        seen = set()
        for algebra in drawn_small() + larger_algebras():
            for module in self.check_modules(algebra):
                seen.add((algebra.p, module.m, degree(module)))
        self.assertTrue({(p, 1, 1) for p in PRIMES} | {(p, 2, 1) for p in (2, 3)} | {(p, 2, 2) for p in PRIMES} <= seen)
        self.assertTrue({(2, 3, 3), (2, 6, 3), (2, 3, 1), (7, 2, 1)} <= seen, seen)

    def test_each_simple_module_is_among_them(self):
        for modules in families(32):
            simple = simple_modules(modules[0].algebra)
            for module in modules:
                if plainly_simple(module):
                    self.assertEqual(sum(find_isomorphism(module, one) is not None for one in simple), 1)


class MultiplicitiesTest(unittest.TestCase):

    def plain_multiplicities(self, module, seed):
        """The numbers of the quotients of a series made by another way."""
        simple = simple_modules(module.algebra)
        counts = [0] * len(simple)
        series = [table_of_set(module, space) for space in plain_series(module, seed)]
        for lower, upper in zip(series, series[1:]):
            # The lower one, told by coordinates of the rows of the upper one.
            inner = [linear.coordinates(upper, row, module.algebra.p) for row in lower]
            part = quotient_module(restricted(module, upper), linear.span(inner, len(upper), module.algebra.p))
            places = [i for i, one in enumerate(simple) if find_isomorphism(part, one) is not None]
            self.assertEqual(len(places), 1)
            counts[places[0]] += 1
        return tuple(counts)

    def test_against_another_series(self):
        seen = set()
        for seed, module in enumerate(all_modules(32)):
            found = unchanged(self, multiplicities, module)
            self.assertEqual(kinds_of(found), kinds_of(self.plain_multiplicities(module, seed)))
            seen.add((module.m, tuple(sorted(found))))
        self.assertTrue({(0, (0,)), (1, (0, 1)), (2, (0, 1)), (2, (1,)), (2, (2,)), (3, (1, 2)), (4, (2,))} <= seen,
                        seen)

    def test_degrees_above_1(self):
        for seed, algebra in enumerate([field(2), field(3), field(2, 3), tensor_product(field(2), Algebra(2, DUAL)),
                                        direct_product(field(2), numbers(2)), tensor_product(field(2), field(2))]):
            whole = regular(algebra)
            for module in (whole, turned(whole, seed)):
                self.assertEqual(multiplicities(module), self.plain_multiplicities(module, seed))
        algebra = field(2, 3)
        self.assertEqual(multiplicities(direct_sum(regular(algebra), regular(algebra))), (2,))
        algebra = tensor_product(matrix_algebra(2, 2), field(2, 3))
        self.assertEqual(multiplicities(regular(algebra)), (2,))
        self.assertEqual(multiplicities(regular(tensor_product(field(5), truncated(5, 2)))), (2,))

    def test_known_ones(self):
        for p in PRIMES:
            self.assertEqual(multiplicities(regular(truncated(p, 4))), (4,))
            self.assertEqual(multiplicities(regular(matrix_algebra(p, 2))), (2,))
            self.assertEqual(sorted(multiplicities(regular(triangular_algebra(p, 2)))), [1, 2])
            self.assertEqual(sorted(multiplicities(point_module(p, [2, 0, 1]))), [0, 1, 2])
            self.assertEqual(multiplicities(zero_module(numbers(p, 3))), (0, 0, 0))
            self.assertEqual(multiplicities(zero_module(matrix_algebra(p, 2))), (0,))
        self.assertEqual(multiplicities(regular(group_algebra(3, cyclic_table(6)))), (3, 3))

    def test_sums(self):
        for modules in families(16):
            for a in modules[:4]:
                for b in modules[-3:]:
                    wanted = tuple(one + two for one, two in zip(multiplicities(a), multiplicities(b)))
                    self.assertEqual(multiplicities(direct_sum(a, b)), wanted)

    def test_of_simple_modules(self):
        for algebra in drawn_small()[::3] + larger_algebras():
            simple = simple_modules(algebra)
            for i, module in enumerate(simple):
                self.assertEqual(multiplicities(module), tuple(int(i == j) for j in range(len(simple))))


class CartanMatrixTest(unittest.TestCase):

    def test_against_the_dimensions(self):
        unlike = set()
        for algebra in drawn_small() + larger_algebras():
            found = unchanged(self, cartan_matrix, algebra)
            firsts = basic_idempotents(algebra)
            sizes = [degree(module) for module in simple_modules(algebra)]
            wanted = tuple(tuple(len(linear.span(
                [algebra.multiply(algebra.multiply(e, algebra.basis(k)), f) for k in range(algebra.n)],
                algebra.n, algebra.p)) // d for f in firsts) for e, d in zip(firsts, sizes))
            self.assertEqual(kinds_of(found), kinds_of(wanted))
            for j, f in enumerate(firsts):
                self.assertEqual(tuple(row[j] for row in found), multiplicities(projective(algebra, f)))
            if found != tuple(zip(*found)):
                unlike.add((algebra.p, max(sizes)))
        # Not symmetric over each p, and with a degree above 1.
        self.assertTrue({(2, 1), (3, 1), (5, 2), (7, 1), (2, 2), (3, 2)} <= unlike, unlike)

    def test_known_ones(self):
        for p in PRIMES:
            self.assertEqual(cartan_matrix(numbers(p)), ((1,),))
            self.assertEqual(cartan_matrix(numbers(p, 3)), ((1, 0, 0), (0, 1, 0), (0, 0, 1)))
            self.assertEqual(cartan_matrix(matrix_algebra(p, 2)), ((1,),))
            self.assertEqual(cartan_matrix(field(p)), ((1,),))
            self.assertEqual(cartan_matrix(truncated(p, 4)), ((4,),))
            self.assertIn(cartan_matrix(triangular_algebra(p, 2)), (((1, 1), (0, 1)), ((1, 0), (1, 1))))
        self.assertIn(cartan_matrix(path_algebra(3, 2, [(0, 1), (0, 1)])), (((1, 2), (0, 1)), ((1, 0), (2, 1))))
        self.assertEqual(cartan_matrix(tensor_product(field(2), truncated(2, 3))), ((3,),))
        self.assertIn(cartan_matrix(tensor_product(triangular_algebra(2, 2), field(2))),
                      (((1, 1), (0, 1)), ((1, 0), (1, 1))))
        self.assertEqual(sorted(cartan_matrix(group_algebra(2, dihedral_table(3)))), [(0, 1), (2, 0)])

    def test_fields_of_unlike_degrees_on_the_two_sides(self):
        # Matrices with a number and an element of a field on the diagonal, and one of the field beside them.
        algebra = mixed_triangular()
        firsts = basic_idempotents(algebra)
        sizes = [degree(module) for module in simple_modules(algebra)]
        self.assertEqual(sorted(sizes), [1, 2])
        found = cartan_matrix(algebra)
        for i, e in enumerate(firsts):
            for j, f in enumerate(firsts):
                self.assertEqual(found[i][j], len(between(algebra, e, f)) // sizes[i])
        self.assertIn(found, (((1, 1), (0, 1)), ((1, 0), (1, 1)), ((1, 2), (0, 1)), ((1, 0), (2, 1))))
        other = cartan_matrix(opposite(algebra))
        self.assertEqual({max(map(max, found)), max(map(max, other))}, {1, 2})


def mixed_triangular():
    """The matrices (a b; 0 k) with a number a and elements b, k of the field with 4 elements."""
    times = field(2).multiply
    basis = [(1, (0, 0), (0, 0)), (0, (1, 0), (0, 0)), (0, (0, 1), (0, 0)), (0, (0, 0), (1, 0)), (0, (0, 0), (0, 1))]
    table = []
    for a, b, k in basis:
        row = []
        for c, d, m in basis:
            upper = tuple((a * s + t) % 2 for s, t in zip(d, times(b, m)))
            row.append((a * c, *upper, *times(k, m)))
        table.append(row)
    return Algebra(2, table)


class CompositionSeriesTest(unittest.TestCase):

    def check_series(self, module, series):
        p = module.algebra.p
        self.assertEqual(kinds_of(series)[0], "tuple")
        self.assertEqual(kinds_of(series[0]), kinds_of(()))
        self.assertEqual(kinds_of(series[-1]), kinds_of(identity(module.m)))
        for lower, upper in zip(series, series[1:]):
            self.assertIs(is_submodule(module, upper), True)
            self.assertTrue(all(linear.space_holds(upper, row, p) for row in lower))
            inner = [linear.coordinates(upper, row, p) for row in lower]
            part = quotient_module(restricted(module, upper), linear.span(inner, len(upper), p))
            self.assertGreater(part.m, 0)
            self.assertIs(looks_simple(part), True)
        self.assertEqual(len(series) - 1, sum(multiplicities(module)))

    def test_all(self):
        lengths = set()
        for module in all_modules(64):
            series = unchanged(self, composition_series, module)
            self.check_series(module, series)
            lengths.add((module.m, len(series)))
        self.assertTrue({(0, 1), (1, 2), (2, 2), (2, 3), (3, 2), (3, 4), (4, 3), (4, 5)} <= lengths, lengths)

    def test_drawn_and_large_ones(self):
        for algebra in list(drawn_algebras().values())[::2] + larger_algebras() + [mixed_triangular()]:
            self.check_series(regular(algebra), composition_series(regular(algebra)))

    def test_the_dimension_0(self):
        for p in PRIMES:
            for algebra in (numbers(p), triangular_algebra(p, 2), matrix_algebra(p, 2)):
                self.assertEqual(kinds_of(composition_series(zero_module(algebra))), kinds_of(((),)))

    def test_known_ones(self):
        for p in PRIMES:
            self.assertEqual(composition_series(regular(Algebra(p, DUAL))), ((), ((0, 1),), ((1, 0), (0, 1))))
            self.assertEqual(composition_series(columns_module(p, 2)), ((), ((1, 0), (0, 1))))
            series = composition_series(regular(truncated(p, 4)))
            self.assertEqual(series, tuple(identity(4)[4 - k:] for k in range(5)))
            self.assertEqual(len(composition_series(point_module(p, [2, 1]))), 4)


if __name__ == "__main__":
    unittest.main()
