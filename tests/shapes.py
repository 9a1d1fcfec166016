"""Modules that several tests use, and plain computations over all their submodules."""

from functools import lru_cache
from random import Random

from algebras import DUAL, field, numbers
from samples import drawn_basis
from test_modules import closing, some_modules, vectors_of

from algebraparts import linear
from algebraparts.algebra import Algebra
from algebraparts.build import direct_product, matrix_algebra, tensor_product, triangular_algebra
from algebraparts.modules import Module


class Rows:
    """What drawn_basis asks of an algebra, for the vectors of a module."""

    def __init__(self, p, n):
        self.p = p
        self.n = n


def in_basis(module, rows):
    """The same module, its vectors told by multiples of independent ones."""
    p, m = module.algebra.p, module.m
    tables = []
    for i in range(module.algebra.n):
        images = [module.act(module.algebra.basis(i), row) for row in rows]
        tables.append([linear.coordinates(rows, image, p) for image in images])
    return Module(module.algebra, m, tables)


def turned(module, seed):
    """The same module in a drawn basis."""
    return in_basis(module, drawn_basis(Rows(module.algebra.p, module.m), seed))


def point_module(p, counts):
    """The module over a product of copies of the numbers on which each copy acts on so many places."""
    m = sum(counts)
    tables = []
    for k, count in enumerate(counts):
        first = sum(counts[:k])
        tables.append([tuple(int(i == j and first <= i < first + count) for j in range(m)) for i in range(m)])
    return Module(numbers(p, len(counts)), m, tables)


def zero_module(algebra):
    return Module(algebra, 0, [[]] * algebra.n)


@lru_cache(maxsize=None)
def families(most):
    """Lists of modules over one algebra with at most so many vectors, some of them in several bases."""
    found = {}
    for module in some_modules(most):
        found.setdefault(str(module.algebra), []).append(module)
    for seed, modules in enumerate(found.values()):
        kept = []
        for module in modules:
            if not any(module == other for other in kept):
                kept.append(module)
        if all(module.m > 0 for module in kept):
            kept.append(zero_module(kept[0].algebra))
        modules[:] = kept + [turned(module, seed + k) for k, module in enumerate(kept) if module.m > 1]
    return list(found.values())


def all_modules(most):
    return [module for modules in families(most) for module in modules]


def every_submodule(module):
    """The sets of the vectors of all submodules: the sums of those that one vector generates."""
    found = {frozenset(closing(module, [v])) for v in vectors_of(module)}
    single = sorted(found, key=sorted)
    queue = list(single)
    for one in queue:
        for two in single:
            if not two <= one:
                both = frozenset(linear.add(v, w, module.algebra.p) for v in one for w in two)
                if both not in found:
                    found.add(both)
                    queue.append(both)
    return found


def table_of_set(module, vectors):
    """The reduced table of a space, a set of vectors."""
    return linear.span(sorted(vectors), module.m, module.algebra.p)


def plain_series(module, seed=1):
    """A composition series, sets of vectors, of least submodules above the ones before."""
    random = Random(seed)
    spaces = sorted(every_submodule(module), key=lambda space: (len(space), sorted(space)))
    series = [spaces[0]]
    while len(series[-1]) < module.algebra.p ** module.m:
        above = [space for space in spaces if series[-1] < space]
        least = [space for space in above if not any(other < space for other in above)]
        series.append(random.choice(least))
    return series


def larger_algebras():
    """Algebras of the greatest sizes, with and without a radical, and with degrees above 1."""
    return [
        tensor_product(matrix_algebra(2, 2), field(2, 3)), tensor_product(triangular_algebra(2, 3), field(2)),
        direct_product(matrix_algebra(2, 3), triangular_algebra(2, 2)),
        direct_product(tensor_product(matrix_algebra(2, 2), Algebra(2, DUAL)),
                       tensor_product(field(2), Algebra(2, DUAL))),
        direct_product(triangular_algebra(3, 2), matrix_algebra(3, 2)), tensor_product(field(3),
                                                                                       triangular_algebra(3, 2)),
        direct_product(triangular_algebra(5, 2), field(5)), matrix_algebra(7, 2), triangular_algebra(7, 2),
    ]
