"""The structure of Wedderburn and Artin: algebraparts.structure."""

import unittest

from algebras import DUAL, drawn_algebras, field, least_algebras, members_of, numbers, small_algebras, truncated
from samples import ODD_VALUES, PRIMES, check_malformed, kinds_of, unchanged
from test_centre import NO_ELEMENTS
from test_radical import drawn_basis_of, known_cases

from algebraparts import linear
from algebraparts.algebra import Algebra
from algebraparts.build import (
    changed, direct_product, matrix_algebra, opposite, polynomial_quotient, tensor_product, triangular_algebra,
)
from algebraparts.centre import is_unit, units
from algebraparts.groups import cyclic_table, dihedral_table, group_algebra
from algebraparts.ideals import quotient
from algebraparts.radical import radical
from algebraparts.structure import Block, matrix_at, structure, unit_count, wedderburn_type


def known_types():
    """Pairs of an algebra and its type."""
    for p in PRIMES:
        yield numbers(p), ((1, 1),)
        yield numbers(p, 3), ((1, 1),) * 3
        yield field(p), ((1, 2),)
        yield Algebra(p, DUAL), ((1, 1),)
        yield truncated(p, 4), ((1, 1),)
        yield matrix_algebra(p, 2), ((2, 1),)
        yield triangular_algebra(p, 2), ((1, 1),) * 2
        yield direct_product(field(p), numbers(p)), ((1, 1), (1, 2))
        yield direct_product(field(p), Algebra(p, DUAL)), ((1, 1), (1, 2))
    for p in (2, 3, 5):
        yield direct_product(matrix_algebra(p, 2), numbers(p)), ((1, 1), (2, 1))
    for p in (2, 3):
        yield direct_product(matrix_algebra(p, 2), field(p)), ((1, 2), (2, 1))
        yield direct_product(field(p), field(p)), ((1, 2), (1, 2))
        yield tensor_product(triangular_algebra(p, 2), field(p)), ((1, 2), (1, 2))
    yield polynomial_quotient(3, (1, 2, 0, 1)), ((1, 3),)
    yield field(2, 3), ((1, 3),)
    yield polynomial_quotient(2, (1, 1, 0, 0, 0, 0, 1)), ((1, 6),)
    yield polynomial_quotient(2, (1, 0, 0, 0, 0, 0, 0, 0, 0, 1, 0, 1)), wanted_type_of_11()
    yield polynomial_quotient(2, (1, 1, 0, 0, 1, 0, 1) + (0,) * 5 + (1,)), ((1, 12),)
    yield matrix_algebra(2, 3), ((3, 1),)
    yield tensor_product(matrix_algebra(2, 2), field(2)), ((2, 2),)
    yield tensor_product(matrix_algebra(2, 2), field(2, 3)), ((2, 3),)
    yield tensor_product(matrix_algebra(2, 2), truncated(2, 3)), ((2, 1),)
    yield tensor_product(matrix_algebra(2, 2), numbers(2, 3)), ((2, 1),) * 3
    yield direct_product(matrix_algebra(2, 2), tensor_product(matrix_algebra(2, 2), field(2))), ((2, 1), (2, 2))
    yield direct_product(tensor_product(matrix_algebra(2, 2), field(2)), matrix_algebra(2, 2)), ((2, 1), (2, 2))
    yield direct_product(matrix_algebra(2, 3), field(2, 3)), ((1, 3), (3, 1))
    yield direct_product(matrix_algebra(2, 3), direct_product(field(2), numbers(2))), ((1, 1), (1, 2), (3, 1))
    yield direct_product(matrix_algebra(2, 2), matrix_algebra(2, 2)), ((2, 1), (2, 1))
    yield tensor_product(field(2), field(2, 3)), ((1, 6),)
    yield tensor_product(field(2), field(2)), ((1, 2), (1, 2))
    yield tensor_product(field(2), truncated(2, 3)), ((1, 2),)
    yield group_algebra(2, dihedral_table(3)), ((1, 1), (2, 1))
    yield group_algebra(2, dihedral_table(5)), ((1, 1), (2, 2))
    yield group_algebra(3, dihedral_table(3)), ((1, 1), (1, 1))
    yield group_algebra(2, cyclic_table(7)), ((1, 1), (1, 3), (1, 3))
    yield group_algebra(2, cyclic_table(9)), ((1, 1), (1, 2), (1, 6))
    yield group_algebra(2, cyclic_table(12)), ((1, 1), (1, 2))
    yield group_algebra(5, cyclic_table(3)), ((1, 1), (1, 2))
    yield triangular_algebra(2, 4), ((1, 1),) * 4


def wanted_type_of_11():
    """The type of the quotient by 1 + x^9 + x^11, from the orders of its roots."""
    # x^11 + x^9 + 1 is irreducible over p = 2 (its reciprocal is x^11 + x^2 + 1).
    return ((1, 11),)


def type_cases():
    for seed, (algebra, wanted) in enumerate(known_types()):
        yield algebra, wanted
        yield changed(algebra, drawn_basis_of(algebra, seed)), wanted


def all_small():
    return list(small_algebras().values()) + list(drawn_algebras().values())


def times_field(k, l, f, p):
    """The product of two polynomials below the degree d, modulo f."""
    d = len(f) - 1
    out = [0] * (2 * d)
    for i, a in enumerate(k):
        for j, b in enumerate(l):
            out[i + j] += a * b
    for top in range(2 * d - 1, d - 1, -1):
        for i in range(d):
            out[top - d + i] -= out[top] * f[i]
    return tuple(a % p for a in out[:d])


def times_matrix(one, two, f, p):
    """The product of two matrices over a field."""
    m, d = len(one), len(f) - 1
    out = []
    for i in range(m):
        line = []
        for j in range(m):
            total = (0,) * d
            for k in range(m):
                part = times_field(one[i][k], two[k][j], f, p)
                total = tuple((a + b) % p for a, b in zip(total, part))
            line.append(total)
        out.append(tuple(line))
    return tuple(out)


def is_irreducible(f, p):
    """True if a monic polynomial has no monic divisor of a degree from 1 to half its own."""
    from itertools import product
    d = len(f) - 1
    for low in range(1, d // 2 + 1):
        for items in product(range(p), repeat=low):
            rest = list(f)
            for top in range(d, low - 1, -1):
                lead = rest[top]
                for i in range(low):
                    rest[top - low + i] = (rest[top - low + i] - lead * items[i]) % p
                rest[top] = 0
            if not any(rest):
                return False
    return d >= 1


class StructureTest(unittest.TestCase):

    def check_block_form(self, algebra, block, pivots):
        p = algebra.p
        self.assertIs(block.__class__, Block)
        self.assertLessEqual({"m", "d", "units", "generator", "polynomial"}, set(vars(block)))
        self.assertEqual(kinds_of(block.m)[0], "int")
        self.assertEqual(kinds_of(block.d)[0], "int")
        self.assertEqual(block.units.__class__, tuple)
        self.assertEqual([len(row) for row in block.units], [block.m] * block.m)
        self.assertTrue(all(row.__class__ is tuple for row in block.units))
        for x in [x for row in block.units for x in row] + [block.generator]:
            self.assertTrue(algebra.is_element(x))
            self.assertTrue(all(x[k] == 0 for k in pivots))
        self.assertTrue(linear.is_row(block.polynomial, p, block.d + 1))
        self.assertEqual(block.polynomial[-1], 1)

    def check_blocks(self, algebra):
        blocks = structure(algebra)
        self.assertEqual(blocks.__class__, tuple)
        space = radical(algebra)
        pivots = [row.index(1) for row in space]
        rest = lambda x: linear.rest(space, x, algebra.p)
        times = lambda x, y: rest(algebra.multiply(x, y))
        pairs = [(block.m, block.d) for block in blocks]
        self.assertEqual(pairs, sorted(pairs))
        self.assertEqual(sum(m * m * d for m, d in pairs) + len(space), algebra.n)
        unit_places = [(k, i, j) for k, block in enumerate(blocks) for i in range(block.m) for j in range(block.m)]
        unit_at = {(k, i, j): blocks[k].units[i][j] for k, i, j in unit_places}
        for k, i, j in unit_places:
            for r, s, t in unit_places:
                wanted = unit_at[k, i, t] if k == r and j == s else algebra.zero()
                self.assertEqual(times(unit_at[k, i, j], unit_at[r, s, t]), wanted, str(algebra))
        total = algebra.zero()
        for k, i, j in unit_places:
            if i == j:
                total = algebra.add(total, unit_at[k, i, j])
        self.assertEqual(rest(total), rest(algebra.one))
        rows = list(space)
        for k, block in enumerate(blocks):
            self.check_block_form(algebra, block, pivots)
            rows.extend(self.check_field(algebra, block, rest, times))
        self.assertEqual(len(linear.span(rows, algebra.n, algebra.p)), algebra.n)
        return blocks

    def check_field(self, algebra, block, rest, times):
        """Check the generator; return the products of its powers and the units."""
        one = algebra.zero()
        for i in range(block.m):
            one = algebra.add(one, block.units[i][i])
        one = rest(one)
        c = block.generator
        self.assertNotEqual(c, algebra.zero())
        self.assertEqual(times(c, one), c)
        self.assertEqual(times(one, c), c)
        for row in block.units:
            for x in row:
                self.assertEqual(times(c, x), times(x, c))
        powers = [one]
        for _ in range(block.d):
            powers.append(times(powers[-1], c))
        value = linear.combine(powers, block.polynomial, algebra.n, algebra.p)
        self.assertEqual(rest(value), algebra.zero(), str(algebra))
        self.assertTrue(is_irreducible(block.polynomial, algebra.p))
        return [times(power, x) for power in powers[:block.d] for row in block.units for x in row]

    def test_small_algebras(self):
        seen = set()
        for algebra in all_small():
            blocks = self.check_blocks(algebra)
            seen.update((block.m, block.d) for block in blocks)
        self.assertTrue({(1, 1), (1, 2), (1, 3), (2, 1)} <= seen)

    def test_known_types(self):
        for algebra, wanted in type_cases():
            blocks = self.check_blocks(algebra)
            self.assertEqual(tuple((block.m, block.d) for block in blocks), wanted, str(algebra))
            self.assertEqual(unchanged(self, wedderburn_type, algebra), wanted)
            self.assertEqual(kinds_of(wedderburn_type(algebra)), kinds_of(wanted))

    def test_largest_algebras(self):
        for algebra, _ in known_cases():
            if algebra.n > 5:
                self.check_blocks(algebra)

    def test_again(self):
        for algebra in all_small():
            one, two = structure(algebra), structure(Algebra(algebra.p, [list(row) for row in algebra.table]))
            self.assertTrue(one == two)
            self.assertEqual([vars(block) for block in one], [vars(block) for block in two])

    def test_types(self):
        for algebra in all_small():
            wanted = tuple((block.m, block.d) for block in structure(algebra))
            self.assertEqual(unchanged(self, wedderburn_type, algebra), wanted)
            self.assertEqual(wedderburn_type(opposite(algebra)), wanted)
            self.assertEqual(wedderburn_type(quotient(algebra, radical(algebra))), wanted)
        self.assertEqual(wedderburn_type(Algebra(2, (((1, 0), (0, 1)), ((0, 1), (1, 1))))), ((1, 2),))

    def test_types_of_products(self):
        for one in (triangular_algebra(2, 2), field(2), matrix_algebra(2, 2), truncated(2, 2), numbers(2, 2)):
            for two in (field(2, 3), matrix_algebra(2, 2), tensor_product(matrix_algebra(2, 2), field(2)), field(2)):
                wanted = tuple(sorted(wedderburn_type(one) + wedderburn_type(two)))
                self.assertEqual(wedderburn_type(direct_product(one, two)), wanted)

    def test_equality_of_blocks(self):
        algebra = direct_product(matrix_algebra(2, 2), direct_product(field(2), field(2)))
        blocks = structure(algebra)
        again = structure(algebra)
        for i, one in enumerate(blocks):
            for j, two in enumerate(again):
                self.assertIs(one == two, i == j)
                self.assertIs(one != two, i != j)
            for value in ODD_VALUES + (algebra, vars(one), (one,), [one], (one.m, one.d, one.units)):
                self.assertIs(one == value, False)
                self.assertIs(one != value, True)

    def test_each_field_counts(self):
        fields = {"m": 1, "d": 2, "units": (((1, 0),),), "generator": (0, 1), "polynomial": (1, 1, 1)}
        other = {"m": 2, "d": 3, "units": (((0, 0),),), "generator": (1, 1), "polynomial": (1, 0, 1)}
        one = structure(field(2))[0]
        two = structure(field(2))[0]
        self.assertEqual({name: getattr(one, name) for name in fields}, fields)
        for name in fields:
            setattr(two, name, other[name])
            self.assertIs(one == two, False, name)
            setattr(two, name, fields[name])
            self.assertIs(one == two, True)


class MatrixTest(unittest.TestCase):

    def matrices(self, algebra, x, blocks):
        return [matrix_at(algebra, block, x) for block in blocks]

    def sample(self, algebra, many):
        rows = members_of(algebra) if algebra.n < 7 else [algebra.basis(i) for i in range(algebra.n)]
        return rows[::max(1, len(rows) // many)] + [algebra.basis(i) for i in range(algebra.n)]

    def cases(self):
        found = list(least_algebras(64).values()) + list(drawn_algebras().values())[:15]
        found.append(tensor_product(matrix_algebra(2, 2), field(2, 3)))
        found.append(tensor_product(matrix_algebra(2, 2), truncated(2, 3)))
        found.append(tensor_product(field(2), truncated(2, 3)))
        found.append(direct_product(matrix_algebra(2, 3), field(2)))
        found.append(tensor_product(triangular_algebra(3, 2), field(3)))
        return found

    def test_form(self):
        for algebra in self.cases():
            for block in structure(algebra):
                for x in self.sample(algebra, 5):
                    found = unchanged(self, matrix_at, algebra, block, x)
                    self.assertEqual(found.__class__, tuple)
                    self.assertEqual([len(line) for line in found], [block.m] * block.m)
                    for line in found:
                        self.assertEqual(line.__class__, tuple)
                        self.assertTrue(all(linear.is_row(k, algebra.p, block.d) for k in line))

    def test_the_sum_of_the_units(self):
        # x is, modulo the radical, the sum of all k_t c^t e_ij over all blocks.
        for algebra in self.cases():
            space = radical(algebra)
            blocks = structure(algebra)
            for x in self.sample(algebra, 12):
                total = algebra.zero()
                for block in blocks:
                    for line, row in zip(matrix_at(algebra, block, x), block.units):
                        for k, unit in zip(line, row):
                            for a in k:
                                total = algebra.add(total, algebra.scaled(a, unit))
                                unit = algebra.multiply(block.generator, unit)
                self.assertTrue(linear.space_holds(space, algebra.subtract(x, total), algebra.p), str(algebra))

    def test_sums_and_products(self):
        for algebra in self.cases():
            for block in structure(algebra):
                rows = self.sample(algebra, 4)
                at = {x: matrix_at(algebra, block, x) for x in rows}
                for x in rows:
                    for y in rows[::3]:
                        product = matrix_at(algebra, block, algebra.multiply(x, y))
                        self.assertEqual(product, times_matrix(at[x], at[y], block.polynomial, algebra.p))
                        wanted = tuple(tuple(linear.add(k, l, algebra.p) for k, l in zip(line, other))
                                       for line, other in zip(at[x], at[y]))
                        self.assertEqual(matrix_at(algebra, block, algebra.add(x, y)), wanted)

    def test_1_and_the_units_and_the_generator(self):
        for algebra in self.cases():
            blocks = structure(algebra)
            for k, block in enumerate(blocks):
                m, d = block.m, block.d
                none, one = (0,) * d, (1,) + (0,) * (d - 1)
                # The generator is told by the polynomial if the field has the degree 1.
                c = (0, 1) + (0,) * (d - 2) if d > 1 else (-block.polynomial[0] % algebra.p,)
                place = lambda r, s, a: tuple(tuple(a if (i, j) == (r, s) else none for j in range(m)) for i in range(m))
                along = lambda a: tuple(tuple(a if i == j else none for j in range(m)) for i in range(m))
                self.assertEqual(matrix_at(algebra, block, algebra.one), along(one))
                self.assertEqual(matrix_at(algebra, block, algebra.zero()), along(none))
                self.assertEqual(matrix_at(algebra, block, block.generator), along(c))
                for i in range(m):
                    for j in range(m):
                        self.assertEqual(matrix_at(algebra, block, block.units[i][j]), place(i, j, one))
                for other in blocks[:k] + blocks[k + 1:]:
                    for x in [x for row in other.units for x in row] + [other.generator]:
                        self.assertEqual(matrix_at(algebra, block, x), along(none))

    def test_0_exactly_on_the_radical(self):
        for algebra in least_algebras(64).values():
            space = radical(algebra)
            blocks = structure(algebra)
            for x in members_of(algebra):
                is_zero = all(not any(any(k) for line in matrix for k in line)
                              for matrix in self.matrices(algebra, x, blocks))
                self.assertIs(is_zero, linear.space_holds(space, x, algebra.p))

    def test_other_values(self):
        algebra = truncated(3, 2)
        block = structure(algebra)[0]
        for x in NO_ELEMENTS:
            check_malformed(self, matrix_at, algebra, block, x)


class UnitCountTest(unittest.TestCase):

    def test_against_all_units(self):
        for algebra in all_small():
            self.assertEqual(unchanged(self, unit_count, algebra), sum(1 for _ in units(algebra)), str(algebra))

    def test_known_counts(self):
        for p, n in ((2, 12), (3, 7), (5, 5), (7, 4)):
            self.assertEqual(unit_count(truncated(p, n)), (p - 1) * p ** (n - 1))
            self.assertEqual(unit_count(numbers(p, n)), (p - 1) ** n)
        for p in PRIMES:
            self.assertEqual(unit_count(matrix_algebra(p, 2)), (p * p - 1) * (p * p - p))
            self.assertEqual(unit_count(triangular_algebra(p, 2)), (p - 1) * (p - 1) * p)
            self.assertEqual(unit_count(field(p)), p * p - 1)
        self.assertEqual(unit_count(matrix_algebra(2, 3)), 168)
        self.assertEqual(unit_count(tensor_product(matrix_algebra(2, 2), field(2))), 15 * 12)
        self.assertEqual(unit_count(tensor_product(matrix_algebra(2, 2), field(2, 3))), 63 * 56)
        self.assertEqual(unit_count(tensor_product(matrix_algebra(2, 2), truncated(2, 3))), 6 * 2 ** 8)
        self.assertEqual(unit_count(direct_product(matrix_algebra(2, 2), triangular_algebra(2, 3))), 6 * 8)
        self.assertEqual(unit_count(group_algebra(2, dihedral_table(6))), 6 * 2 ** 7)

    def test_units_are_those_with_units_at_all_blocks(self):
        for algebra in least_algebras(27).values():
            blocks = structure(algebra)
            if all(block.m == 1 for block in blocks):
                for x in members_of(algebra):
                    wanted = all(any(matrix_at(algebra, block, x)[0][0]) for block in blocks)
                    self.assertIs(is_unit(algebra, x), wanted)


if __name__ == "__main__":
    unittest.main()
