"""The radical and its powers: algebraparts.radical."""

import unittest

from algebras import (
    DUAL, drawn_algebras, field, is_closed, numbers, radical_set, small_algebras, truncated,
)
from samples import PRIMES, drawn_basis, spanned, unchanged

from algebraparts.algebra import Algebra
from algebraparts.build import (
    changed, direct_product, matrix_algebra, opposite, tensor_product, triangular_algebra,
)
from algebraparts.groups import cyclic_table, dihedral_table, direct_table, group_algebra
from algebraparts.ideals import is_ideal, is_space, nilpotency, power_of, quotient
from algebraparts.paths import path_algebra
from algebraparts.radical import is_semisimple, radical, radical_index, radical_powers


def known_dimensions():
    """Pairs of an algebra and the dimension of its radical, up to the largest algebras."""
    for p, top in ((2, 12), (3, 7), (5, 5), (7, 4)):
        for n in range(1, top + 1):
            yield truncated(p, n), n - 1
            yield numbers(p, n), 0
            if p == 2:
                yield group_algebra(2, cyclic_table(n)), n - {8: 1, 4: 1, 2: 1, 12: 3, 6: 3, 10: 5}.get(n, n)
    for p, n, dimension in ((3, 3, 2), (3, 6, 4), (3, 4, 0), (5, 5, 4), (5, 4, 0), (7, 3, 0), (3, 5, 0), (3, 7, 0)):
        yield group_algebra(p, cyclic_table(n)), dimension
    for n, dimension in ((1, 1), (2, 3), (3, 1), (4, 7), (5, 1), (6, 7)):
        # The group algebra of the dihedral group of the order 2 n for p = 2.
        yield group_algebra(2, dihedral_table(n)), dimension
    yield group_algebra(3, dihedral_table(3)), 4
    yield group_algebra(5, dihedral_table(2)), 0
    yield group_algebra(2, direct_table(cyclic_table(2), dihedral_table(2))), 7
    yield group_algebra(2, direct_table(cyclic_table(3), cyclic_table(4))), 9
    for p in (2, 3):
        yield matrix_algebra(p, 2), 0
        yield triangular_algebra(p, 3), 3
        yield tensor_product(matrix_algebra(p, 2), numbers(p)), 0
    yield triangular_algebra(2, 4), 6
    yield matrix_algebra(2, 3), 0
    yield tensor_product(matrix_algebra(2, 2), field(2, 3)), 0
    yield tensor_product(matrix_algebra(2, 2), truncated(2, 3)), 8
    yield tensor_product(field(2), truncated(2, 6)), 10
    yield tensor_product(field(2), tensor_product(field(2), field(2, 3))), 0
    yield direct_product(matrix_algebra(2, 3), triangular_algebra(2, 2)), 1
    yield path_algebra(2, 3, [(0, 1), (1, 2), (0, 1), (1, 2)]), 8


def known_cases():
    """The same ones in the told basis and in another one."""
    for seed, (algebra, dimension) in enumerate(known_dimensions()):
        yield algebra, dimension
        yield changed(algebra, drawn_basis_of(algebra, seed)), dimension


def drawn_basis_of(algebra, seed):
    """A basis that is not the told one, without the list of all sums that drawn_basis makes."""
    if algebra.n < 6:
        return drawn_basis(algebra, seed)
    rows = [algebra.basis((i * 5 + seed) % algebra.n) for i in range(algebra.n)] if algebra.n % 5 else \
        [algebra.basis((i * 3 + seed) % algebra.n) for i in range(algebra.n)]
    for i in range(1, algebra.n):
        rows[i] = algebra.add(rows[i], algebra.scaled(i + seed, rows[i - 1]))
    return rows


class RadicalTest(unittest.TestCase):

    def test_against_all_elements(self):
        sizes = {}
        for algebra in list(small_algebras().values()) + list(drawn_algebras().values()):
            found = unchanged(self, radical, algebra)
            self.assertTrue(is_space(algebra, found))
            inside = radical_set(algebra)
            self.assertEqual(spanned(found, algebra.n, algebra.p), inside, str(algebra))
            self.assertTrue(is_closed(algebra, inside, "lr"))
            self.assertIs(unchanged(self, is_semisimple, algebra), len(inside) == 1)
            sizes[algebra.p, len(found)] = sizes.get((algebra.p, len(found)), 0) + 1
        self.assertTrue({(2, 0), (2, 1), (2, 2), (2, 3), (3, 0), (3, 1), (3, 2), (5, 0), (5, 1), (7, 0), (7, 1)}
                        <= set(sizes))

    def test_known_dimensions(self):
        for algebra, dimension in known_cases():
            found = radical(algebra)
            self.assertEqual(len(found), dimension, str(algebra))
            self.assertTrue(is_ideal(algebra, found))
            self.assertIsNotNone(nilpotency(algebra, found))
            # Nothing nilpotent is left over the radical.
            self.assertEqual(radical(quotient(algebra, found)), ())
            self.assertIs(is_semisimple(algebra), dimension == 0)

    def test_known_ones(self):
        for p in PRIMES:
            self.assertEqual(radical(Algebra(p, DUAL)), ((0, 1),))
            self.assertEqual(radical(triangular_algebra(p, 2)), ((0, 1, 0),))
            self.assertEqual(radical(numbers(p)), ())
            self.assertEqual(radical(truncated(p, 3)), ((0, 1, 0), (0, 0, 1)))
            if p < 7:
                cyclic = group_algebra(p, cyclic_table(p))
                self.assertEqual(radical(cyclic), tuple(
                    tuple(1 if i == k else (p - 1 if i == p - 1 else 0) for i in range(p)) for k in range(p - 1)))
        self.assertEqual(radical(group_algebra(2, dihedral_table(3))), ((1, 1, 1, 1, 1, 1),))
        self.assertEqual(radical(Algebra(2, (((1, 0), (0, 1)), ((0, 1), (0, 0))))), ((0, 1),))

    def test_opposite_algebras_have_the_same_radical(self):
        for algebra in small_algebras().values():
            self.assertEqual(radical(opposite(algebra)), radical(algebra))

    def test_products_have_both_radicals(self):
        for one in (triangular_algebra(2, 2), Algebra(2, DUAL), matrix_algebra(2, 2)):
            for two in (truncated(2, 3), field(2), triangular_algebra(2, 2)):
                wanted = [x + two.zero() for x in radical(one)] + [one.zero() + y for y in radical(two)]
                self.assertEqual(radical(direct_product(one, two)), tuple(wanted))


class PowersTest(unittest.TestCase):

    def test_powers_and_index(self):
        for algebra in list(small_algebras().values()) + list(drawn_algebras().values()):
            first = radical(algebra)
            powers = [power_of(algebra, first, k) for k in range(1, algebra.n + 2)]
            wanted = tuple(space for space in powers if space != ())
            found = unchanged(self, radical_powers, algebra)
            self.assertEqual(found, wanted, str(algebra))
            self.assertEqual(found.__class__, tuple)
            dimensions = [len(space) for space in found] + [0]
            self.assertEqual(dimensions, sorted(set(dimensions), reverse=True))
            self.assertEqual(unchanged(self, radical_index, algebra), powers.index(()) + 1)
            self.assertEqual(radical_index(algebra), nilpotency(algebra, first))

    def test_semisimple_ones(self):
        for p in PRIMES:
            for algebra in (numbers(p), numbers(p, 3), field(p), matrix_algebra(p, 2)):
                self.assertEqual(radical_powers(algebra), ())
                self.assertEqual(radical_index(algebra), 1)
                self.assertIs(is_semisimple(algebra), True)

    def test_known_ones(self):
        for p, top in ((2, 12), (3, 7), (5, 5), (7, 4)):
            for n in range(2, top + 1):
                algebra = truncated(p, n)
                powers = [tuple(algebra.basis(i) for i in range(k, n)) for k in range(1, n)]
                self.assertEqual(radical_powers(algebra), tuple(powers))
                self.assertEqual(radical_index(algebra), n)
                self.assertIs(is_semisimple(algebra), False)
        for m in (1, 2, 3, 4):
            self.assertEqual(radical_index(triangular_algebra(2, m)), m)
        self.assertEqual(radical_powers(triangular_algebra(2, 3)),
                         (((0, 1, 0, 0, 0, 0), (0, 0, 1, 0, 0, 0), (0, 0, 0, 0, 1, 0)), ((0, 0, 1, 0, 0, 0),)))
        self.assertEqual(radical_index(group_algebra(2, cyclic_table(8))), 8)
        self.assertEqual(radical_index(group_algebra(2, direct_table(cyclic_table(2), cyclic_table(2)))), 3)


if __name__ == "__main__":
    unittest.main()
