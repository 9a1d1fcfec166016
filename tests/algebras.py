"""Small algebras that several tests use, and plain computations over all their elements."""

from functools import lru_cache
from random import Random

from samples import PRIMES, all_rows, drawn_basis, plain_sum, spanned

from algebraparts import linear
from algebraparts.algebra import Algebra
from algebraparts.build import (
    changed, direct_product, matrix_algebra, opposite, polynomial_quotient, tensor_product, triangular_algebra,
)
from algebraparts.centre import generated_algebra
from algebraparts.groups import cyclic_table, dihedral_table, direct_table, group_algebra
from algebraparts.paths import incidence_algebra, path_algebra

DUAL = (((1, 0), (0, 1)), ((0, 1), (0, 0)))
# Irreducible polynomials of the degree 2.
QUADRATIC = {2: (1, 1, 1), 3: (1, 0, 1), 5: (2, 0, 1), 7: (1, 0, 1)}


def field(p, d=2):
    """A field with p^d elements, for few p and d."""
    return polynomial_quotient(p, {1: (0, 1), 2: QUADRATIC[p], 3: (1, 1, 0, 1)}[d])


def numbers(p, n=1):
    """The product of n copies of the numbers modulo p."""
    return polynomial_quotient(p, (0, 1)) if n == 1 else direct_product(numbers(p, n - 1), numbers(p))


def truncated(p, n):
    """The polynomials modulo the power n of the variable."""
    return polynomial_quotient(p, (0,) * n + (1,))


@lru_cache(maxsize=None)
def tiny_algebras():
    """Algebras with at most 128 elements, by name, without changed bases."""
    found = {}
    for p in PRIMES:
        found[f"numbers {p}"] = numbers(p)
        found[f"dual {p}"] = Algebra(p, DUAL)
        found[f"field {p}"] = field(p)
        found[f"pairs {p}"] = numbers(p, 2)
    for p in (2, 3, 5):
        found[f"triangular {p}"] = triangular_algebra(p, 2)
    for p in (2, 3):
        found[f"matrices {p}"] = matrix_algebra(p, 2)
        found[f"truncated {p}"] = truncated(p, p + 1)
        found[f"cyclic group {p}"] = group_algebra(p, cyclic_table(p + 1 if p == 3 else 4))
        found[f"group of order p {p}"] = group_algebra(p, cyclic_table(p))
        found[f"quiver {p}"] = path_algebra(p, 2, [(0, 1), (0, 1)])
        found[f"dual and triangular {p}"] = direct_product(Algebra(p, DUAL), numbers(p))
    found["klein"] = group_algebra(2, direct_table(cyclic_table(2), cyclic_table(2)))
    found["symmetric"] = group_algebra(2, dihedral_table(3))
    found["triangular of size 3"] = triangular_algebra(2, 3)
    found["order"] = incidence_algebra(2, 3, [(0, 2), (1, 2)])
    found["opposite order"] = opposite(found["order"])
    found["matrices and field"] = direct_product(matrix_algebra(2, 2), field(2))
    found["triangular and pairs"] = direct_product(triangular_algebra(2, 2), numbers(2, 2))
    found["field with dual numbers"] = tensor_product(field(2), Algebra(2, DUAL))
    found["two fields"] = tensor_product(field(2), field(2))
    found["field of degree 3"] = field(2, 3)
    return found


@lru_cache(maxsize=None)
def small_algebras():
    """The tiny algebras, and the same ones in other bases, by name."""
    found = {}
    for seed, (name, algebra) in enumerate(tiny_algebras().items()):
        found[name] = algebra
        found[name + ", changed"] = changed(algebra, drawn_basis(algebra, seed))
    return found


def algebra_on(algebra, space):
    """The algebra on a space that holds 1 and products, by coordinates of its rows."""
    table = [[linear.coordinates(space, algebra.multiply(x, y), algebra.p) for y in space] for x in space]
    return Algebra(algebra.p, table)


@lru_cache(maxsize=None)
def drawn_algebras():
    """Algebras that two drawn elements of larger ones generate, with at most 128 elements, each text once."""
    random = Random(11)
    larger = [matrix_algebra(2, 3), group_algebra(2, dihedral_table(6)), triangular_algebra(2, 4),
              direct_product(matrix_algebra(2, 2), triangular_algebra(2, 3)), matrix_algebra(3, 2),
              direct_product(triangular_algebra(3, 2), truncated(3, 4)), direct_product(field(5), triangular_algebra(5, 2)),
              group_algebra(3, dihedral_table(3)), tensor_product(matrix_algebra(2, 2), field(2, 3))]
    found = {}
    for algebra in larger:
        rows = all_rows(algebra.n, algebra.p)
        for _ in range(14):
            part = algebra_on(algebra, generated_algebra(algebra, [random.choice(rows), random.choice(rows)]))
            if part.p ** part.n <= 128:
                found[str(part)] = part
    return found


def least_algebras(most):
    """The small algebras with at most so many elements, by name."""
    return {name: algebra for name, algebra in small_algebras().items() if algebra.p ** algebra.n <= most}


def members_of(algebra):
    """All elements, ascending."""
    return all_rows(algebra.n, algebra.p)


def total(algebra, rows):
    """The sum of elements."""
    return plain_sum(rows, [1] * len(rows), algebra.n, algebra.p)


def drawn_lists(algebra, seed, many=6):
    """Lists of elements: none, 0, 1, single ones, two and three."""
    random = Random(seed)
    rows = members_of(algebra)
    found = [[], [algebra.zero()], [algebra.one], [algebra.zero(), algebra.one]]
    for k in range(many):
        found.append([random.choice(rows) for _ in range(1 + k % 3)])
    # Elements with many zeros are often no units, and generate small spaces.
    found.extend([[algebra.basis(i)] for i in range(algebra.n)])
    return found


def some_spaces(algebra, seed=3):
    """Reduced tables of several spaces, 0 and the whole algebra too."""
    found = {linear.span(rows, algebra.n, algebra.p) for rows in drawn_lists(algebra, seed, 8)}
    found.add(linear.span([algebra.basis(i) for i in range(algebra.n)], algebra.n, algebra.p))
    return sorted(found)


def closing(algebra, rows, sides):
    """The set of the elements of the least space that holds rows and, with u, all x u ("l"), u x ("r")."""
    found = [row for row in rows]
    inside = spanned(found, algebra.n, algebra.p)
    for u in found:
        for x in members_of(algebra):
            for side, product in (("l", algebra.multiply(x, u)), ("r", algebra.multiply(u, x))):
                if side in sides and product not in inside:
                    found.append(product)
                    inside = spanned(found, algebra.n, algebra.p)
    return inside


def is_closed(algebra, inside, sides):
    """True if a space, a set of elements, holds, with u, all x u ("l"), u x ("r")."""
    # The x u are sums of multiples of the b u, with the basis elements b.
    basis = [algebra.basis(i) for i in range(algebra.n)]
    for u in inside:
        for x in basis:
            if "l" in sides and algebra.multiply(x, u) not in inside:
                return False
            if "r" in sides and algebra.multiply(u, x) not in inside:
                return False
    return True


def some_ideals(algebra, seed=4):
    """Reduced tables of several ideals, 0 and the whole algebra too."""
    found = set()
    for rows in drawn_lists(algebra, seed, 5):
        found.add(linear.span(sorted(closing(algebra, rows, "lr")), algebra.n, algebra.p))
    return sorted(found)


def plain_nilpotent(algebra, x):
    """True if 0 is among the powers of x."""
    seen = set()
    power = x
    while power not in seen:
        seen.add(power)
        power = algebra.multiply(power, x)
    return algebra.zero() in seen


@lru_cache(maxsize=None)
def divisors_of(most):
    """Triples of the name of an algebra with at most so many elements, it, and an ideal other than all."""
    return [(name, algebra, space) for name, algebra in least_algebras(most).items()
            for space in some_ideals(algebra) if len(space) < algebra.n]


def radical_set(algebra):
    """The set of all x with x y nilpotent for all y, as point 4.2 describes the radical."""
    rows = members_of(algebra)
    nilpotent = {x for x in rows if plain_nilpotent(algebra, x)}
    return set(x for x in rows if all(algebra.multiply(x, y) in nilpotent for y in rows))
