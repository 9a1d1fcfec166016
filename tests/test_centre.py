"""The centre, minimal polynomials and units: algebraparts.centre."""

import inspect
import unittest
from itertools import product

from algebras import (
    DUAL, drawn_lists, field, least_algebras, members_of, numbers, plain_nilpotent, small_algebras, tiny_algebras,
    truncated,
)
from samples import ODD_VALUES, PRIMES, check_malformed, check_refused, kinds_of, plain_sum, spanned, unchanged
from test_ideals import odd_rows

from algebraparts import linear
from algebraparts.algebra import Algebra
from algebraparts.build import matrix_algebra, polynomial_quotient, tensor_product, triangular_algebra
from algebraparts.centre import (
    centralizer, centre, commutator_space, generated_algebra, inverse, is_commutative, is_nilpotent, is_unit,
    minimal_polynomial, units, value_at, zero_partner,
)
from algebraparts.groups import cyclic_table, dihedral_table, group_algebra
from algebraparts.ideals import is_space

# Values that are no elements of an algebra of the dimension 2 over p = 3.
NO_ELEMENTS = ODD_VALUES + (
    (0, 3), (0, -1), (0, 1, 0), (0,), [0, 1], (0, True), (False, 0), (0, None), ((0, 1),), "01", (0, "1"), ((0,), 1),
)
# Values that are no polynomials over p = 3.
NO_POLYNOMIALS = tuple(value for value in ODD_VALUES if value.__class__ is not tuple or value != ()) + (
    (0,), (1, 0), (0, 0), (1, 1, 0), [], [1], [0, 1], (True,), (1, True), (False, 1), (1, 3), (3, 1), (-1, 1), (1, -1),
    (1, None), ("1",), (1, (1,)), (1, [1]), "11", {0: 1}, 1,
)


def polynomials(p, most):
    """All polynomials with at most so many coefficients."""
    for n in range(most + 1):
        for f in product(range(p), repeat=n):
            if n == 0 or f[-1] != 0:
                yield f


def plain_value(algebra, f, x):
    """The value, by the powers of x."""
    return plain_sum([algebra.power(x, k) for k in range(len(f))], f, algebra.n, algebra.p)


def commuting(algebra, rows):
    """The set of all elements that commute with all rows."""
    return {x for x in members_of(algebra)
            if all(algebra.multiply(x, y) == algebra.multiply(y, x) for y in rows)}


def plain_inverses(algebra):
    """A dict from the units to their inverses, by looking at all products."""
    rows = members_of(algebra)
    return {x: y for x in rows for y in rows if algebra.multiply(x, y) == algebra.one == algebra.multiply(y, x)}


class CentreTest(unittest.TestCase):

    def test_centralizer(self):
        proper = 0
        for name, algebra in small_algebras().items():
            for rows in drawn_lists(algebra, 6):
                found = unchanged(self, centralizer, algebra, rows)
                self.assertTrue(is_space(algebra, found))
                wanted = commuting(algebra, rows)
                self.assertEqual(spanned(found, algebra.n, algebra.p), wanted, (name, rows))
                self.assertEqual(centralizer(algebra, tuple(rows)), found)
                proper += len(found) < algebra.n
        self.assertGreater(proper, 50)

    def test_centralizer_of_no_and_of_many_elements(self):
        for algebra in small_algebras().values():
            whole = tuple(algebra.basis(i) for i in range(algebra.n))
            self.assertEqual(centralizer(algebra, []), whole)
            self.assertEqual(centralizer(algebra, ()), whole)
            self.assertEqual(centralizer(algebra, [algebra.one, algebra.zero()]), whole)
            self.assertEqual(centralizer(algebra, members_of(algebra)), centre(algebra))

    def test_centre(self):
        sizes = set()
        for name, algebra in small_algebras().items():
            found = unchanged(self, centre, algebra)
            self.assertTrue(is_space(algebra, found))
            wanted = commuting(algebra, [algebra.basis(i) for i in range(algebra.n)])
            self.assertEqual(spanned(found, algebra.n, algebra.p), wanted, name)
            sizes.add(len(found) == algebra.n)
        self.assertEqual(sizes, {True, False})
        for p in PRIMES:
            self.assertEqual(centre(matrix_algebra(p, 2)), ((1, 0, 0, 1),))
            self.assertEqual(centre(triangular_algebra(p, 2)), ((1, 0, 1),))
        self.assertEqual(len(centre(group_algebra(2, dihedral_table(3)))), 3)

    def test_commutators(self):
        for name, algebra in least_algebras(81).items():
            rows = members_of(algebra)
            found = unchanged(self, commutator_space, algebra)
            differences = [algebra.subtract(algebra.multiply(x, y), algebra.multiply(y, x))
                           for x in rows[::2] for y in rows[::3]]
            self.assertTrue(all(linear.space_holds(found, z, algebra.p) for z in differences), name)
            self.assertEqual(found, linear.span(
                differences + [algebra.subtract(algebra.table[i][j], algebra.table[j][i])
                               for i in range(algebra.n) for j in range(algebra.n)], algebra.n, algebra.p))
            wanted = all(algebra.multiply(x, y) == algebra.multiply(y, x) for x in rows for y in rows[::7]) and \
                found == ()
            self.assertIs(unchanged(self, is_commutative, algebra), wanted)
        for p in PRIMES:
            self.assertEqual(commutator_space(triangular_algebra(p, 2)), ((0, 1, 0),))
            self.assertEqual(commutator_space(matrix_algebra(p, 2)), ((1, 0, 0, p - 1), (0, 1, 0, 0), (0, 0, 1, 0)))
            self.assertIs(is_commutative(matrix_algebra(p, 2)), False)
            self.assertIs(is_commutative(triangular_algebra(p, 2)), False)
            self.assertIs(is_commutative(field(p)), True)
            self.assertIs(is_commutative(numbers(p)), True)
            self.assertEqual(commutator_space(truncated(p, 3)), ())
        self.assertIs(is_commutative(group_algebra(2, dihedral_table(3))), False)
        self.assertIs(is_commutative(group_algebra(2, cyclic_table(6))), True)

    def test_generated_algebra(self):
        sizes = set()
        for name, algebra in least_algebras(81).items():
            for rows in drawn_lists(algebra, 7):
                table = [algebra.one] + list(rows)
                inside = spanned(table, algebra.n, algebra.p)
                for x in table:
                    for y in rows:
                        if algebra.multiply(x, y) not in inside:
                            table.append(algebra.multiply(x, y))
                            inside = spanned(table, algebra.n, algebra.p)
                found = unchanged(self, generated_algebra, algebra, rows)
                self.assertTrue(is_space(algebra, found))
                self.assertEqual(spanned(found, algebra.n, algebra.p), inside, (name, rows))
                self.assertEqual(generated_algebra(algebra, tuple(rows)), found)
                sizes.add((algebra.n, len(found)))
        self.assertGreater(len(sizes), 12)

    def test_generated_algebras_of_long_products(self):
        for n in range(1, 13):
            algebra = truncated(2, n)
            self.assertEqual(len(generated_algebra(algebra, [algebra.basis(n > 1)])), n)
            self.assertEqual(generated_algebra(algebra, []), (algebra.one,))
        for p in PRIMES:
            matrices = matrix_algebra(p, 2)
            self.assertEqual(len(generated_algebra(matrices, [(0, 1, 0, 0), (0, 0, 1, 0)])), 4)
            self.assertEqual(generated_algebra(matrices, [(0, 1, 0, 0)]), ((1, 0, 0, 1), (0, 1, 0, 0)))

    def test_other_values(self):
        algebra = truncated(3, 2)
        for value in odd_rows():
            check_malformed(self, centralizer, algebra, value)
            check_malformed(self, generated_algebra, algebra, value)


class PolynomialsTest(unittest.TestCase):

    def test_minimal_polynomials(self):
        degrees = set()
        for name, algebra in small_algebras().items():
            zero = algebra.zero()
            for x in members_of(algebra)[:40]:
                found = unchanged(self, minimal_polynomial, algebra, x)
                self.assertEqual(kinds_of(found)[0], "tuple")
                self.assertTrue(linear.is_row(found, algebra.p, len(found)))
                self.assertEqual(found[-1], 1)
                self.assertEqual(plain_value(algebra, found, x), zero, (name, x))
                # The powers below the degree are independent, so no polynomial of less degree has the value 0.
                powers = [algebra.power(x, k) for k in range(len(found) - 1)]
                self.assertEqual(len(linear.span(powers, algebra.n, algebra.p)), len(found) - 1)
                degrees.add(len(found) - 1)
        self.assertTrue({1, 2, 3, 4} <= degrees)

    def test_against_all_polynomials(self):
        for algebra in least_algebras(27).values():
            for x in members_of(algebra):
                monic = [f for f in polynomials(algebra.p, algebra.n + 1) if f[-1:] == (1,) and len(f) > 1]
                least = [f for f in monic if plain_value(algebra, f, x) == algebra.zero()][0]
                self.assertEqual(minimal_polynomial(algebra, x), least)

    def test_known_ones(self):
        for p in PRIMES:
            for algebra in (matrix_algebra(p, 2), triangular_algebra(p, 2), numbers(p), numbers(p, 2), field(p)):
                self.assertEqual(minimal_polynomial(algebra, algebra.zero()), (0, 1))
                self.assertEqual(minimal_polynomial(algebra, algebra.one), (p - 1, 1))
                for c in range(p):
                    self.assertEqual(minimal_polynomial(algebra, algebra.scaled(c, algebra.one)), (-c % p, 1))
            for n in range(1, 5):
                algebra = truncated(p, n)
                x = algebra.basis(1) if n > 1 else (0,)
                self.assertEqual(minimal_polynomial(algebra, x), (0,) * n + (1,))
            self.assertEqual(minimal_polynomial(matrix_algebra(p, 2), (1, 0, 0, 0)), (0, p - 1, 1))
            self.assertEqual(minimal_polynomial(matrix_algebra(p, 2), (0, 1, 1, 0)), (p - 1, 0, 1))
            self.assertEqual(minimal_polynomial(matrix_algebra(p, 2), (0, 1, 0, 0)), (0, 0, 1))
        self.assertEqual(minimal_polynomial(Algebra(3, DUAL), (1, 1)), (1, 1, 1))
        for f in ((1, 1, 0, 1), (1, 0, 1, 1), (1, 1, 1, 1), (0, 1, 1, 1)):
            self.assertEqual(minimal_polynomial(polynomial_quotient(2, f), (0, 1, 0)), f)

    def test_values(self):
        for name, algebra in least_algebras(27).items():
            for x in members_of(algebra):
                for f in list(polynomials(algebra.p, 4))[:60]:
                    found = unchanged(self, value_at, algebra, f, x)
                    self.assertEqual(found, plain_value(algebra, f, x), (name, f, x))
        for p in PRIMES:
            algebra = triangular_algebra(p, 2)
            for x in members_of(algebra)[::5]:
                self.assertEqual(value_at(algebra, (), x), (0, 0, 0))
                self.assertEqual(value_at(algebra, (p - 1,), x), (p - 1, 0, p - 1))
                self.assertEqual(value_at(algebra, (0, 1), x), x)
                self.assertEqual(value_at(algebra, minimal_polynomial(algebra, x), x), (0, 0, 0))
                high = (0,) * 40 + (1,)
                self.assertEqual(value_at(algebra, high, x), algebra.power(x, 40))

    def test_other_values(self):
        algebra = truncated(3, 2)
        for x in NO_ELEMENTS:
            check_malformed(self, minimal_polynomial, algebra, x)
            check_malformed(self, value_at, algebra, (0, 1), x)
            check_malformed(self, value_at, algebra, (), x)
            check_malformed(self, value_at, algebra, None, x)
        for f in NO_POLYNOMIALS:
            check_malformed(self, value_at, algebra, f, (0, 1))
            check_malformed(self, value_at, algebra, f, (0, 0))
        self.assertEqual(value_at(truncated(2, 2), (1,), (0, 1)), (1, 0))
        check_malformed(self, value_at, truncated(2, 2), (2,), (0, 1))
        check_malformed(self, value_at, truncated(2, 2), (2, 1), (0, 1))


class UnitsTest(unittest.TestCase):

    def test_against_all_elements(self):
        answers = {True: 0, False: 0}
        for name, algebra in least_algebras(81).items():
            inverses = plain_inverses(algebra)
            self.assertEqual(list(units(algebra)), sorted(inverses), name)
            for x in members_of(algebra):
                found = unchanged(self, is_unit, algebra, x)
                self.assertIs(found, x in inverses, (name, x))
                answers[found] += 1
                if found:
                    self.assertEqual(unchanged(self, inverse, algebra, x), inverses[x])
                    self.assertIsNone(unchanged(self, zero_partner, algebra, x))
                else:
                    check_refused(self, "unit", inverse, algebra, x)
                    y = unchanged(self, zero_partner, algebra, x)
                    self.assertTrue(algebra.is_element(y))
                    self.assertNotEqual(y, algebra.zero())
                    self.assertEqual(algebra.multiply(x, y), algebra.zero(), (name, x))
                    self.assertEqual(algebra.multiply(y, x), algebra.zero(), (name, x))
        self.assertGreater(min(answers.values()), 100)

    def test_nilpotent_elements(self):
        answers = {True: 0, False: 0}
        for name, algebra in small_algebras().items():
            for x in members_of(algebra):
                found = unchanged(self, is_nilpotent, algebra, x)
                self.assertIs(found, plain_nilpotent(algebra, x), (name, x))
                answers[found] += 1
        self.assertGreater(min(answers.values()), 100)
        for n in range(1, 13):
            algebra = truncated(2, n)
            self.assertIs(is_nilpotent(algebra, algebra.basis(n - 1)), n > 1)
            self.assertIs(is_nilpotent(algebra, algebra.basis(1)), True)
            self.assertIs(is_nilpotent(algebra, algebra.basis(0)), False)

    def test_known_ones(self):
        for p in PRIMES:
            for algebra in (matrix_algebra(p, 2), truncated(p, 3), numbers(p), numbers(p, 2), field(p)):
                self.assertIs(is_unit(algebra, algebra.one), True)
                self.assertIs(is_unit(algebra, algebra.zero()), False)
                self.assertIs(is_nilpotent(algebra, algebra.zero()), True)
                self.assertIs(is_nilpotent(algebra, algebra.one), False)
                self.assertEqual(inverse(algebra, algebra.one), algebra.one)
                minus = algebra.scaled(-1, algebra.one)
                self.assertEqual(inverse(algebra, minus), minus)
                self.assertIsNone(zero_partner(algebra, algebra.one))
                check_refused(self, "unit", inverse, algebra, algebra.zero())
            self.assertEqual(inverse(Algebra(p, DUAL), (1, 1)), (1, p - 1))
            self.assertEqual(inverse(matrix_algebra(p, 2), (1, 1, 0, 1)), (1, p - 1, 0, 1))
            self.assertEqual(len(list(units(field(p)))), p * p - 1)
            self.assertEqual(len(list(units(matrix_algebra(p, 2)))), (p * p - 1) * (p * p - p))
        self.assertEqual(inverse(Algebra(3, DUAL), (1, 1)), (1, 2))

    def test_units_is_a_generator(self):
        self.assertTrue(inspect.isgeneratorfunction(units))
        steps = units(numbers(3, 2))
        self.assertIs(iter(steps), steps)
        self.assertEqual(next(steps), (1, 1))
        self.assertEqual(list(steps), [(1, 2), (2, 1), (2, 2)])

    def test_units_of_the_largest_algebras(self):
        for p, n in ((2, 12), (3, 7), (5, 5), (7, 4)):
            algebra = truncated(p, n)
            found = list(units(algebra))
            self.assertEqual(found, [x for x in members_of(algebra) if x[0] != 0])
        algebra = tensor_product(matrix_algebra(2, 2), field(2, 3))
        self.assertEqual(len(list(units(algebra))), 63 * 56)

    def test_other_values(self):
        algebra = truncated(3, 2)
        for x in NO_ELEMENTS:
            for function in (is_unit, is_nilpotent, inverse, zero_partner):
                check_malformed(self, function, algebra, x)

    def test_the_examples_of_the_document(self):
        dual = Algebra(3, (((1, 0), (0, 1)), ((0, 1), (0, 0))))
        self.assertEqual(minimal_polynomial(dual, (1, 1)), (1, 1, 1))
        self.assertEqual(inverse(dual, (1, 1)), (1, 2))

    def test_one_sided_inverses_are_inverses(self):
        for algebra in tiny_algebras().values():
            rows = members_of(algebra)[:27]
            for x in rows:
                for y in rows:
                    if algebra.multiply(x, y) == algebra.one:
                        self.assertIs(is_unit(algebra, x), True)
                        self.assertIs(is_unit(algebra, y), True)
                        self.assertEqual(inverse(algebra, y), x)


if __name__ == "__main__":
    unittest.main()
