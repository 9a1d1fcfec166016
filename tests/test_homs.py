"""Homomorphisms of modules: algebraparts.homs."""

import unittest
from itertools import product

from algebras import DUAL, field, members_of, numbers, truncated
from samples import PRIMES, all_rows, check_malformed, check_refused, drawn_basis, kinds_of, plain_sum, unchanged
from shapes import Rows, all_modules, families, in_basis, larger_algebras, point_module, turned, zero_module
from test_modules import columns_module, identity, plain_act, vectors_of

from algebraparts import linear
from algebraparts.algebra import Algebra
from algebraparts.build import matrix_algebra, opposite, tensor_product, triangular_algebra
from algebraparts.homs import degree, find_isomorphism, homomorphisms
from algebraparts.modules import Module, direct_sum, regular


def plain_image(table, v, width, p):
    """The image of a vector under a linear map."""
    return plain_sum(table, v, width, p)


def keeps_basis_products(a, b, table):
    """True if f(x v) = x f(v) for all basis elements and unit vectors."""
    p = a.algebra.p
    for i in range(a.algebra.n):
        for k in range(a.m):
            image = [0] * b.m
            for j, c in enumerate(table[k]):
                for place, d in enumerate(b.tables[i][j]):
                    image[place] += c * d
            for j, c in enumerate(a.tables[i][k]):
                for place, d in enumerate(table[j]):
                    image[place] -= c * d
            if any(c % p for c in image):
                return False
    return True


def keeps_all_products(a, b, table):
    """True if f(x v) = x f(v) for all elements and vectors."""
    p = a.algebra.p
    for v in vectors_of(a):
        for x in members_of(a.algebra):
            moved = plain_image(table, plain_act(a, x, v), b.m, p)
            if moved != plain_act(b, x, plain_image(table, v, b.m, p)):
                return False
    return True


def all_tables(a, b):
    """All tables of linear maps."""
    return product(all_rows(b.m, a.algebra.p), repeat=a.m)


def flat(table):
    return tuple(item for row in table for item in row)


def small_pairs(most, number):
    """Pairs of modules over one algebra with at most so many tables of linear maps."""
    for modules in families(49):
        pairs = [(a, b) for a in modules for b in modules if a.algebra.p ** (a.m * b.m) <= most]
        yield from pairs[::max(1, len(pairs) // number)]


class HomomorphismsTest(unittest.TestCase):

    def test_against_all_tables(self):
        seen = {}
        for a, b in small_pairs(300, 9):
            p = a.algebra.p
            found = unchanged(self, homomorphisms, a, b)
            self.assertEqual(kinds_of(found)[0], "tuple")
            rows = [flat(table) for table in found]
            wanted = [flat(table) for table in all_tables(a, b) if keeps_basis_products(a, b, table)]
            self.assertEqual(tuple(rows), linear.span(wanted, a.m * b.m, p))
            self.assertEqual(len(wanted), p ** len(found))
            self.assertEqual(kinds_of(found), kinds_of(tuple(
                tuple(row[k * b.m:(k + 1) * b.m] for k in range(a.m)) for row in linear.span(wanted, a.m * b.m, p))))
            seen.setdefault((p, a.m, b.m), set()).add(len(found))
        for p in PRIMES:
            self.assertIn(1, seen[p, 1, 1])
            self.assertTrue({0, 1, 2} <= {many for key in seen for many in seen[key] if key[0] == p}, p)
        self.assertTrue({1, 2, 4} <= seen[2, 2, 2])
        self.assertTrue({(2, 3, 2), (2, 2, 3), (2, 2, 4), (2, 4, 2), (3, 2, 2), (2, 0, 3), (3, 2, 0),
                         (3, 1, 3)} <= set(seen))

    def test_all_products_are_kept(self):
        kept = 0
        for modules in families(16)[::2]:
            for a in modules[:4]:
                for b in modules[-4:]:
                    for table in homomorphisms(a, b):
                        self.assertTrue(keeps_all_products(a, b, table))
                        kept += 1
        self.assertGreater(kept, 200)

    def test_the_dimension_0(self):
        for p in PRIMES:
            for algebra in (numbers(p), Algebra(p, DUAL), matrix_algebra(p, 2)):
                none, whole = zero_module(algebra), regular(algebra)
                for a, b in ((none, whole), (whole, none), (none, none)):
                    self.assertEqual(kinds_of(unchanged(self, homomorphisms, a, b)), kinds_of(()))
                self.assertEqual(degree(none), 0)
                self.assertEqual(kinds_of(find_isomorphism(none, none)), kinds_of(()))
                self.assertIsNone(find_isomorphism(none, whole))
                self.assertIsNone(find_isomorphism(whole, none))

    def test_known_ones(self):
        for p in PRIMES:
            dual = regular(Algebra(p, DUAL))
            self.assertEqual(homomorphisms(dual, dual), (((1, 0), (0, 1)), ((0, 1), (0, 0))))
            least = Module(Algebra(p, DUAL), 1, [[(1,)], [(0,)]])
            self.assertEqual(homomorphisms(dual, least), (((1,), (0,)),))
            self.assertEqual(homomorphisms(least, dual), (((0, 1),),))
            column = columns_module(p, 2)
            self.assertEqual(homomorphisms(column, column), (((1, 0), (0, 1)),))
            self.assertEqual(len(homomorphisms(column, regular(matrix_algebra(p, 2)))), 2)

    def test_from_the_regular_module(self):
        # These belong to the vectors: to f belongs f(1).
        for algebra in larger_algebras():
            module = regular(algebra)
            found = homomorphisms(module, module)
            self.assertEqual(len(found), algebra.n)
            self.assertEqual(degree(module), algebra.n)
            for table in found:
                self.assertTrue(keeps_basis_products(module, module, table))
                one = plain_image(table, algebra.one, algebra.n, algebra.p)
                self.assertEqual(list(table), [algebra.multiply(algebra.basis(k), one) for k in range(algebra.n)])


class DegreeTest(unittest.TestCase):

    def test_against_the_homomorphisms(self):
        for module in all_modules(27):
            found = unchanged(self, degree, module)
            self.assertEqual(kinds_of(found), kinds_of(len(homomorphisms(module, module))))

    def test_known_ones(self):
        for p in PRIMES:
            self.assertEqual(degree(regular(field(p))), 2)
            self.assertEqual(degree(columns_module(p, 2)), 1)
            self.assertEqual(degree(regular(truncated(p, 3))), 3)
            self.assertEqual(degree(point_module(p, [2, 1])), 5)
        self.assertEqual(degree(point_module(2, [3, 0, 2])), 13)
        self.assertEqual(degree(regular(field(2, 3))), 3)
        # All linear maps, of the greatest dimension.
        self.assertEqual(degree(point_module(2, [12])), 144)


class FindIsomorphismTest(unittest.TestCase):

    def check_found(self, a, b, table):
        p = a.algebra.p
        self.assertEqual(kinds_of(table)[0], "tuple")
        self.assertEqual(len(table), a.m)
        self.assertTrue(all(b.is_vector(row) for row in table))
        self.assertTrue(keeps_basis_products(a, b, table))
        self.assertEqual(len(linear.span(table, b.m, p)), b.m)

    def test_against_all_tables(self):
        answers = {True: 0, False: 0}
        for a, b in small_pairs(300, 12):
            found = unchanged(self, find_isomorphism, a, b)
            exists = a.m == b.m and any(
                len(linear.span(table, b.m, a.algebra.p)) == a.m and keeps_basis_products(a, b, table)
                for table in all_tables(a, b))
            self.assertEqual(found is not None, exists)
            if found is None:
                answers[False] += a.m == b.m
            else:
                self.check_found(a, b, found)
                answers[True] += 1
        self.assertGreater(min(answers.values()), 20)

    def test_in_unlike_bases(self):
        unlike = 0
        for seed, module in enumerate(all_modules(32)):
            other = turned(module, 100 + seed)
            for a, b in ((module, other), (other, module)):
                self.check_found(a, b, find_isomorphism(a, b))
            unlike += module != other
        self.assertGreater(unlike, 200)

    def test_of_regular_modules(self):
        for seed, algebra in enumerate(larger_algebras()):
            module = regular(algebra)
            other = in_basis(module, drawn_basis(Rows(algebra.p, algebra.n), seed))
            self.check_found(module, other, find_isomorphism(module, other))

    def test_unlike_ones_of_one_dimension(self):
        for p in PRIMES:
            dual = Algebra(p, DUAL)
            least = Module(dual, 1, [[(1,)], [(0,)]])
            self.assertIsNone(find_isomorphism(regular(dual), direct_sum(least, least)))
            self.assertIsNone(find_isomorphism(direct_sum(least, least), regular(dual)))
            self.assertIsNone(find_isomorphism(point_module(p, [1, 0]), point_module(p, [0, 1])))
            self.assertIsNone(find_isomorphism(point_module(p, [2, 1]), point_module(p, [1, 2])))
            self.assertIsNone(find_isomorphism(point_module(p, [0, 3]), point_module(p, [3, 0])))
        # Both are sums of the same simple modules in composition series.
        algebra = triangular_algebra(2, 2)
        a = Module(algebra, 2, [[(1, 0), (0, 0)], [(0, 0), (1, 0)], [(0, 0), (0, 1)]])
        b = Module(algebra, 2, [[(1, 0), (0, 0)], [(0, 0), (0, 0)], [(0, 0), (0, 1)]])
        self.assertIsNone(find_isomorphism(a, b))
        self.assertIsNone(find_isomorphism(b, a))

    def test_many_homomorphisms(self):
        # On places of one kind all linear maps are homomorphisms: the squares of the counts are added.
        few = {2: ([3], [2, 2, 2], [3, 1, 1, 1]), 3: ([2], [2, 1, 1, 1]), 5: ([2], [2, 1]), 7: ([2], [1, 1, 1, 1])}
        many = {2: ([4], [3, 2], [2, 2, 2, 1]), 3: ([2, 2], [2, 1, 1, 1, 1]), 5: ([2, 1, 1],), 7: ([2, 1],)}
        for p in PRIMES:
            for counts in few[p]:
                module = point_module(p, counts)
                self.assertLessEqual(p ** degree(module), 4096)
                self.check_found(module, turned(module, 3), find_isomorphism(module, turned(module, 3)))
            for counts in many[p]:
                module = point_module(p, counts)
                self.assertGreater(p ** degree(module), 4096)
                for a, b in ((module, module), (module, turned(module, 4)), (turned(module, 5), module)):
                    check_refused(self, "many", find_isomorphism, a, b)
        # The numbers on both sides of the edge.
        self.assertEqual([degree(point_module(2, counts)) for counts in ([2, 2, 2], [3, 2], [2, 2, 2, 1])],
                         [12, 13, 13])
        self.assertEqual([degree(point_module(3, counts)) for counts in ([2, 1, 1, 1], [2, 2])], [7, 8])
        self.assertEqual([degree(point_module(5, counts)) for counts in ([2, 1], [2, 1, 1])], [5, 6])
        self.assertEqual([degree(point_module(7, counts)) for counts in ([1] * 4, [2, 1])], [4, 5])

    def test_many_and_not_isomorphic(self):
        a, b = point_module(2, [5, 1]), point_module(2, [4, 2])
        check_refused(self, "many", find_isomorphism, a, b)
        # Few homomorphisms between unlike modules, and many of each to itself.
        a, b = point_module(2, [4, 0]), point_module(2, [0, 4])
        self.assertIsNone(find_isomorphism(a, b))
        a, b = point_module(2, [4, 1]), point_module(2, [1, 4])
        self.assertEqual(len(homomorphisms(a, b)), 8)
        self.assertIsNone(find_isomorphism(a, b))
        # The 4096 maps are all looked through.
        a, b = point_module(2, [6, 2]), point_module(2, [1, 3])
        self.assertEqual(len(homomorphisms(a, b)), 12)
        self.assertIsNone(find_isomorphism(a, b))
        a, b = point_module(2, [4, 1]), point_module(2, [3, 0])
        self.assertIsNone(find_isomorphism(a, b))

    def test_unlike_dimensions_with_many_homomorphisms(self):
        for p, m in ((2, 5), (3, 4), (5, 3), (7, 3)):
            self.assertGreater(p ** (m * (m - 1)), 4096)
            self.assertIsNone(find_isomorphism(point_module(p, [m]), point_module(p, [m - 1])))
            self.assertIsNone(find_isomorphism(point_module(p, [m - 1]), point_module(p, [m])))


class UnlikeAlgebrasTest(unittest.TestCase):

    def test_malformed(self):
        algebras = [numbers(2), numbers(3), numbers(2, 2), Algebra(2, DUAL), Algebra(3, DUAL), triangular_algebra(2, 2),
                    opposite(triangular_algebra(2, 2)), matrix_algebra(2, 2), truncated(7, 2)]
        for one in algebras:
            for two in algebras:
                if one != two:
                    for a in (regular(one), zero_module(one)):
                        for b in (regular(two), zero_module(two)):
                            check_malformed(self, homomorphisms, a, b)
                            check_malformed(self, find_isomorphism, a, b)
        # Ahead of too many homomorphisms.
        algebra = tensor_product(numbers(2), numbers(2))
        self.assertTrue(algebra == numbers(2))
        check_malformed(self, find_isomorphism, point_module(2, [4]), Module(Algebra(2, DUAL), 4,
                                                                             [identity(4), identity(4, 0)]))


if __name__ == "__main__":
    unittest.main()
