"""Algebras of matrices, quotients by polynomials, products, and algebras in other bases."""

from algebraparts.algebra import Algebra, check_prime, check_size
from algebraparts.errors import Malformed
from algebraparts.linear import basis_row, combine, coordinates, is_row, less, scaled, span
from algebraparts.whole import is_positive


def algebra_of_places(p, places):
    """Return the algebra in which products of basis elements are basis elements or 0.

    `places` has at `i, j` the index of the product, or -1 where it is 0.
    """
    n = len(places)
    check_size(p, n)
    return Algebra(p, [[basis_row(n, k) for k in row] for row in places])


def algebra_of_pairs(p, pairs):
    """Return the algebra of a list of pairs, which are closed under products."""
    ordered = sorted(pairs)
    places = {}
    for k, pair in enumerate(ordered):
        places[pair] = k
    table = [[places[i, m] if j == k else -1 for k, m in ordered] for i, j in ordered]
    return algebra_of_places(p, table)


def check_matrices(p, m):
    """Raise Malformed if `p` is no prime here, or `m` no integer from 1 on."""
    check_prime(p)
    if not is_positive(m):
        raise Malformed("the size is no integer from 1 on")


def matrix_algebra(p, m):
    """Return the algebra of all square matrices of the size `m`."""
    check_matrices(p, m)
    check_size(p, m * m)
    return algebra_of_pairs(p, [(i, j) for i in range(m) for j in range(m)])


def triangular_algebra(p, m):
    """Return the algebra of the upper triangular matrices of the size `m`."""
    check_matrices(p, m)
    check_size(p, m * (m + 1) // 2)
    return algebra_of_pairs(p, [(i, j) for i in range(m) for j in range(i, m)])


def is_monic(value, p):
    """Return True if the value tells a monic polynomial of a degree from 1 on, for every value."""
    if not isinstance(value, (list, tuple)) or len(value) < 2:
        return False
    return is_row(tuple(value), p, len(value)) and value[-1] == 1


def polynomial_quotient(p, f):
    """Return the quotient by a monic polynomial, told by its coefficients."""
    check_prime(p)
    if not is_monic(f, p):
        raise Malformed("this is no monic polynomial")
    n = len(f) - 1
    check_size(p, n)
    powers = [basis_row(n, 0)]
    for k in range(2 * n - 2):
        # The variable times a remainder: its last item takes the power n, which f replaces.
        shifted = (0, *powers[k][:-1])
        powers.append(less(shifted, f[:-1], powers[k][-1], p))
    return Algebra(p, [powers[i:i + n] for i in range(n)])


def check_one_prime(a, b):
    """Raise Malformed if two algebras are over unlike `p`."""
    if a.p != b.p:
        raise Malformed("the algebras are over unlike p")


def direct_product(a, b):
    """Return the algebra of the pairs of an element of `a` and one of `b`."""
    check_one_prime(a, b)
    check_size(a.p, a.n + b.n)
    none = (0,) * (a.n + b.n)
    upper = [[(*x, *b.zero()) for x in row] + [none] * b.n for row in a.table]
    lower = [[none] * a.n + [(*a.zero(), *y) for y in row] for row in b.table]
    return Algebra(a.p, upper + lower)


def tensor_row(x, y, p):
    """Return the tensor product of two rows."""
    return tuple([c for s in x for c in scaled(y, s, p)])


def tensor_product(a, b):
    """Return the tensor product of two algebras."""
    check_one_prime(a, b)
    check_size(a.p, a.n * b.n)
    table = [[tensor_row(x, y, a.p) for x in one for y in two] for one in a.table for two in b.table]
    return Algebra(a.p, table)


def opposite(a):
    """Return the algebra with the products in the other order."""
    return Algebra(a.p, [[row[i] for row in a.table] for i in range(a.n)])


def check_basis(a, rows):
    """Raise Malformed if the value is no list or tuple of `n` independent elements."""
    if not isinstance(rows, (list, tuple)) or len(rows) != a.n:
        raise Malformed("this is no list or tuple of n rows")
    if not all([a.is_element(row) for row in rows]) or len(span(rows, a.n, a.p)) != a.n:
        raise Malformed("these are no independent rows of the algebra")


def changed(a, rows):
    """Return the algebra in the basis of the elements `rows`."""
    check_basis(a, rows)
    old = [coordinates(rows, a.basis(k), a.p) for k in range(a.n)]
    table = [[combine(old, a.multiply(x, y), a.n, a.p) for y in rows] for x in rows]
    return Algebra(a.p, table)


def meant(a, rows, x):
    """Return the element of `a` for which an element of changed(a, rows) stands."""
    check_basis(a, rows)
    return combine(rows, x, a.n, a.p)
