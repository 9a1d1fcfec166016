"""Algebras built from others: algebraparts.build."""

import unittest

from samples import (
    ODD_VALUES, PRIMES, WRONG_PRIMES, all_rows, check_malformed, check_refused, drawn_basis, fields_table, kinds_of,
    plain_sum, some_pairs, unchanged,
)

from algebraparts.algebra import Algebra
from algebraparts.build import (
    changed, direct_product, matrix_algebra, meant, opposite, polynomial_quotient, tensor_product, triangular_algebra,
)

WRONG_SIZES = tuple(value for value in ODD_VALUES if not (value.__class__ is int and value > 0)) + (-10 ** 30, "1")
# The largest m with p^(m m), p^(m (m + 1) / 2), p^m at most 4096.
LARGEST_MATRICES = {2: 3, 3: 2, 5: 2, 7: 2}
LARGEST_TRIANGULAR = {2: 4, 3: 3, 5: 2, 7: 2}
LARGEST = {2: 12, 3: 7, 5: 5, 7: 4}


def square(x, places, m):
    """The square matrix with the items of x at some places, in order."""
    matrix = [[0] * m for _ in range(m)]
    for a, (i, j) in zip(x, places):
        matrix[i][j] = a
    return matrix


def matrix_product(one, two, m, p):
    return [[sum(one[i][k] * two[k][j] for k in range(m)) % p for j in range(m)] for i in range(m)]


def polynomial_product(x, y, f, p):
    """The remainder of the product by a monic polynomial."""
    out = [0] * (len(x) + len(y))
    for i, a in enumerate(x):
        for j, b in enumerate(y):
            out[i + j] += a * b
    n = len(f) - 1
    for k in range(len(out) - 1, n - 1, -1):
        top = out[k]
        for i, a in enumerate(f):
            out[k - n + i] -= top * a
    return tuple(a % p for a in out[:n])


class MatricesTest(unittest.TestCase):

    def check_matrices(self, algebra, places, m):
        p = algebra.p
        self.assertEqual(algebra.n, len(places))
        for x, y in some_pairs(algebra, most=100):
            product = matrix_product(square(x, places, m), square(y, places, m), m, p)
            self.assertEqual(square(algebra.multiply(x, y), places, m), product)
        self.assertEqual(square(algebra.one, places, m), [[int(i == j) for j in range(m)] for i in range(m)])

    def test_matrix_algebra(self):
        for p in PRIMES:
            for m in range(1, LARGEST_MATRICES[p] + 1):
                algebra = unchanged(self, matrix_algebra, p, m)
                self.assertEqual(algebra.p, p)
                self.check_matrices(algebra, [(i, j) for i in range(m) for j in range(m)], m)

    def test_triangular_algebra(self):
        for p in PRIMES:
            for m in range(1, LARGEST_TRIANGULAR[p] + 1):
                algebra = unchanged(self, triangular_algebra, p, m)
                self.assertEqual(algebra.p, p)
                self.check_matrices(algebra, [(i, j) for i in range(m) for j in range(i, m)], m)

    def test_texts(self):
        self.assertEqual(str(triangular_algebra(2, 2)), "2 3: 100 010 000 000 000 010 000 000 001")
        self.assertEqual(str(matrix_algebra(5, 1)), "5 1: 1")
        self.assertEqual(
            str(matrix_algebra(3, 2)),
            "3 4: 1000 0100 0000 0000 0000 0000 1000 0100 0010 0001 0000 0000 0000 0000 0010 0001")

    def test_wrong_primes(self):
        for p in WRONG_PRIMES:
            for m in (1, 2, 100, 0, None, "1"):
                check_malformed(self, matrix_algebra, p, m)
                check_malformed(self, triangular_algebra, p, m)

    def test_wrong_sizes(self):
        for m in WRONG_SIZES:
            for p in (2, 7, 4):
                check_malformed(self, matrix_algebra, p, m)
                check_malformed(self, triangular_algebra, p, m)

    def test_large(self):
        for p in PRIMES:
            for more in (1, 2, 30, 10 ** 6, 10 ** 100):
                check_refused(self, "large", matrix_algebra, p, LARGEST_MATRICES[p] + more)
                check_refused(self, "large", triangular_algebra, p, LARGEST_TRIANGULAR[p] + more)


class PolynomialTest(unittest.TestCase):

    def test_products(self):
        for p in PRIMES:
            polynomials = [(a, b, 1) for a in range(p) for b in range(p)] + [(1, 0, p - 1, 1), (0, 1, 1, 1)]
            for f in polynomials:
                algebra = unchanged(self, polynomial_quotient, p, f)
                self.assertEqual((algebra.p, algebra.n), (p, len(f) - 1))
                self.assertTrue(unchanged(self, polynomial_quotient, p, list(f)) == algebra)
                self.assertEqual(algebra.one, (1,) + (0,) * (len(f) - 2))
                for x, y in some_pairs(algebra, most=20):
                    self.assertEqual(algebra.multiply(x, y), polynomial_product(x, y, f, p))

    def test_degree_one(self):
        for p in PRIMES:
            for a in range(p):
                self.assertTrue(polynomial_quotient(p, (a, 1)) == Algebra(p, [[(1,)]]))
                self.assertTrue(polynomial_quotient(p, [a, 1]) == Algebra(p, [[(1,)]]))

    def test_text(self):
        self.assertEqual(str(polynomial_quotient(2, (1, 1, 1))), "2 2: 10 01 01 11")
        self.assertEqual(str(polynomial_quotient(3, (1, 0, 1))), "3 2: 10 01 01 20")
        self.assertEqual(str(polynomial_quotient(2, (0, 0, 1))), "2 2: 10 01 01 00")

    def test_the_largest_ones(self):
        for p in PRIMES:
            n = LARGEST[p]
            for f in ((1,) * (n + 1), (0,) * n + (1,), tuple(k % p for k in range(n)) + (1,)):
                algebra = polynomial_quotient(p, f)
                for x, y in some_pairs(algebra, most=10):
                    self.assertEqual(algebra.multiply(x, y), polynomial_product(x, y, f, p))
                check_refused(self, "large", polynomial_quotient, p, (0,) + f)
                check_refused(self, "large", polynomial_quotient, p, [0] * 5000 + list(f))

    def test_wrong_values(self):
        wrong = ODD_VALUES + (
            (1,), [1], (1, 0), (1, 2), (0, 0), (1, True), (True, 1), (False, 1), (1, -1, 1), (1, 2, 1), (2, 1), (-1, 1),
            (1, 1, 2), (1, 1, 3), (None, 1), ("0", 1), (1, 1, "1"), ((1,), 1), ([1], 1), "11", {0: 1, 1: 1}, (1, None),
            (0,) * 50, [0] * 50 + [2], [0] * 50 + [True], [2] + [0] * 50 + [1],
        )
        for f in wrong:
            check_malformed(self, polynomial_quotient, 2, f)
        check_malformed(self, polynomial_quotient, 7, (7, 1))
        check_malformed(self, polynomial_quotient, 7, (1, 6))
        for p in WRONG_PRIMES:
            for f in ((1, 1), (1, 1, 1), [0] * 40 + [1], None):
                check_malformed(self, polynomial_quotient, p, f)


class ProductsTest(unittest.TestCase):

    def pairs(self):
        for p in PRIMES:
            field = Algebra(p, [[(1,)]])
            dual = polynomial_quotient(p, (0, 0, 1))
            yield field, field
            yield field, dual
            yield dual, field
            yield dual, dual
        yield triangular_algebra(2, 2), polynomial_quotient(2, (1, 1, 1))
        yield polynomial_quotient(2, (1, 1, 0, 1)), triangular_algebra(2, 2)
        yield triangular_algebra(2, 2), matrix_algebra(2, 2)
        yield polynomial_quotient(3, (2, 1, 1)), triangular_algebra(3, 2)

    def test_direct_product(self):
        for a, b in [*self.pairs(), (triangular_algebra(3, 2), matrix_algebra(3, 2))]:
            algebra = unchanged(self, direct_product, a, b)
            self.assertEqual((algebra.p, algebra.n, algebra.one), (a.p, a.n + b.n, a.one + b.one))
            for x, y in some_pairs(algebra, most=80):
                self.assertEqual(algebra.multiply(x, y),
                                 a.multiply(x[:a.n], y[:a.n]) + b.multiply(x[a.n:], y[a.n:]))

    def test_tensor_product(self):
        for a, b in self.pairs():
            algebra = unchanged(self, tensor_product, a, b)
            self.assertEqual((algebra.p, algebra.n), (a.p, a.n * b.n))
            self.assertEqual(algebra.one, self.tensor(a.one, b.one, a.p))
            for x, z in some_pairs(a, most=16):
                for y, w in some_pairs(b, most=16):
                    self.assertEqual(
                        algebra.multiply(self.tensor(x, y, a.p), self.tensor(z, w, a.p)),
                        self.tensor(a.multiply(x, z), b.multiply(y, w), a.p))

    def tensor(self, x, y, p):
        return tuple(s * t % p for s in x for t in y)

    def test_texts(self):
        dual = polynomial_quotient(2, (0, 0, 1))
        field = polynomial_quotient(2, (1, 1, 1))
        self.assertEqual(str(direct_product(Algebra(2, [[(1,)]]), dual)),
                         "2 3: 100 000 000 000 010 001 000 001 000")
        self.assertEqual(
            str(tensor_product(dual, field)),
            "2 4: 1000 0100 0010 0001 0100 1100 0001 0011 0010 0001 0000 0000 0001 0011 0000 0000")

    def test_unlike_primes(self):
        for p in PRIMES:
            for q in PRIMES:
                if p != q:
                    for a, b in ((Algebra(p, [[(1,)]]), Algebra(q, [[(1,)]])),
                                 (Algebra(p, fields_table(LARGEST[p])), Algebra(q, fields_table(LARGEST[q])))):
                        check_malformed(self, direct_product, a, b)
                        check_malformed(self, tensor_product, a, b)

    def test_large(self):
        for p in PRIMES:
            n = LARGEST[p]
            for k in range(1, n):
                one, two = Algebra(p, fields_table(k)), Algebra(p, fields_table(n - k))
                self.assertTrue(direct_product(one, two) == Algebra(p, fields_table(n)))
                check_refused(self, "large", direct_product, one, Algebra(p, fields_table(n - k + 1)))
            for k in range(1, n + 1):
                one, two = Algebra(p, fields_table(k)), Algebra(p, fields_table(n // k))
                self.assertTrue(tensor_product(one, two) == Algebra(p, fields_table(k * (n // k))))
                if n // k + 1 <= n:
                    check_refused(self, "large", tensor_product, one, Algebra(p, fields_table(n // k + 1)))
            largest = Algebra(p, fields_table(n))
            check_refused(self, "large", direct_product, largest, largest)
            check_refused(self, "large", tensor_product, largest, largest)

    def test_opposite(self):
        for a, b in self.pairs():
            for algebra in (a, b):
                turned = unchanged(self, opposite, algebra)
                self.assertEqual((turned.p, turned.n, turned.one), (algebra.p, algebra.n, algebra.one))
                self.assertTrue(opposite(turned) == algebra)
                for x, y in some_pairs(algebra):
                    self.assertEqual(turned.multiply(x, y), algebra.multiply(y, x))
        self.assertFalse(opposite(triangular_algebra(2, 2)) == triangular_algebra(2, 2))


class ChangedTest(unittest.TestCase):

    def algebras(self):
        for p in PRIMES:
            yield Algebra(p, [[(1,)]])
            yield polynomial_quotient(p, (1, 1, 1))
            yield triangular_algebra(p, 2)
            yield matrix_algebra(p, 2)
        yield triangular_algebra(2, 3)

    def test_the_basis_itself(self):
        for a in self.algebras():
            rows = [a.basis(i) for i in range(a.n)]
            self.assertTrue(changed(a, rows) == a)
            self.assertTrue(changed(a, tuple(rows)) == a)
            for x in all_rows(a.n, a.p)[:50]:
                self.assertEqual(meant(a, rows, x), x)

    def test_other_bases(self):
        for a in self.algebras():
            for seed in range(3):
                rows = drawn_basis(a, seed)
                other = unchanged(self, changed, a, rows)
                self.assertTrue(changed(a, tuple(rows)) == other)
                self.assertEqual(unchanged(self, meant, a, rows, other.one), a.one)
                for x, y in some_pairs(other):
                    self.assertEqual(meant(a, rows, x), plain_sum(rows, x, a.n, a.p))
                    self.assertEqual(meant(a, rows, other.multiply(x, y)),
                                     a.multiply(meant(a, rows, x), meant(a, rows, y)))
                for i in range(a.n):
                    self.assertEqual(meant(a, rows, other.basis(i)), rows[i])
                self.assertEqual(kinds_of(meant(a, tuple(rows), other.one)), kinds_of(a.one))

    def test_the_reverse_basis(self):
        algebra = changed(triangular_algebra(2, 2), [(0, 0, 1), (0, 1, 0), (1, 0, 0)])
        self.assertEqual(str(algebra), "2 3: 100 000 000 010 000 000 000 010 001")
        self.assertEqual(changed(Algebra(5, [[(1,)]]), [(2,)]).table, (((2,),),))

    def test_wrong_rows(self):
        for p in PRIMES:
            a = polynomial_quotient(p, (1, 1, 1))
            wrong = ODD_VALUES + (
                [(1, 0), (1, 0)], [(1, 0), (p - 1, 0)], [(0, 0), (0, 1)], [(0, 0), (0, 0)], [(1, 0)], [],
                [(1, 0), (0, 1), (1, 1)], [(1, 0), (0, 1), (0, 0)], [(1, 0), [0, 1]], [[1, 0], [0, 1]],
                [(1, 0), (0, p)], [(1, 0), (0, -1)], [(1, 0), (False, 1)], [(1, 0), (0, True)], [(1, 0), (0, 1, 0)],
                [(1, 0), (1,)], [(1, 0), None], [(1, 0), "01"], "ab", {0: (1, 0), 1: (0, 1)}, (1, 0), None, a, [a, a],
            )
            for rows in wrong:
                check_malformed(self, changed, a, rows)
                check_malformed(self, meant, a, rows, (1, 0))

    def test_dependent_rows(self):
        a = triangular_algebra(3, 2)
        check_malformed(self, changed, a, [(1, 2, 0), (0, 1, 1), (1, 0, 1)])
        self.assertEqual(changed(a, [(1, 2, 0), (0, 1, 1), (1, 0, 2)]).n, 3)


if __name__ == "__main__":
    unittest.main()
