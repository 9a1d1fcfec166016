"""Modules: tables that act on rows, submodules, quotients and sums."""

from algebraparts.algebra import check_size
from algebraparts.errors import Malformed, Refused
from algebraparts.linear import (
    at_places, basis_row, class_of, combine, free_places, is_reduced, is_row, pivots_of, span,
)
from algebraparts.whole import is_integer


def is_action_table(value, p, m):
    """Return True if the value is a list or tuple of `m` rows of the length `m`, for every value."""
    if not isinstance(value, (list, tuple)) or len(value) != m:
        return False
    return all([is_row(row, p, m) for row in value])


def is_action(value, p, n, m):
    """Return True if the value is a list or tuple of `n` tables of the size `m`, for every value."""
    if not isinstance(value, (list, tuple)) or len(value) != n:
        return False
    return all([is_action_table(table, p, m) for table in value])


def acted(tables, x, v, p):
    """Return the product of an element and a vector."""
    parts = [combine(table, v, len(v), p) for table in tables]
    return combine(parts, x, len(v), p)


def keeps_one(algebra, m, tables):
    """Return True if the unit element takes each vector to itself."""
    for k in range(m):
        v = basis_row(m, k)
        if acted(tables, algebra.one, v, algebra.p) != v:
            return False
    return True


def keeps_products(algebra, m, tables):
    """Return True if (x y) v = x (y v) for all basis elements and vectors."""
    for k in range(m):
        images = [table[k] for table in tables]
        for i in range(algebra.n):
            for j in range(algebra.n):
                at_once = combine(images, algebra.table[i][j], m, algebra.p)
                if at_once != combine(tables[i], images[j], m, algebra.p):
                    return False
    return True


class Module:
    """A left module; its vectors are rows of the length `m`, and it has a table for each basis element."""

    def __init__(self, algebra, m, tables):
        if not is_integer(m) or m < 0:
            raise Malformed("the dimension is no integer from 0 on")
        check_size(algebra.p, m)
        if not is_action(tables, algebra.p, algebra.n, m):
            raise Malformed("these are no tables of a module")
        if not keeps_one(algebra, m, tables) or not keeps_products(algebra, m, tables):
            raise Refused("module")
        self.algebra = algebra
        self.m = m
        self.tables = tuple([tuple(table) for table in tables])

    def __eq__(self, other):
        if not isinstance(other, Module) or self.algebra != other.algebra:
            return False
        return self.m == other.m and self.tables == other.tables

    def is_vector(self, value):
        """Return True if the value is a vector, for every value."""
        return is_row(value, self.algebra.p, self.m)

    def act(self, x, v):
        """Return the product of an element and a vector."""
        if not self.algebra.is_element(x) or not self.is_vector(v):
            raise Malformed("this is no pair of a row of the algebra and a vector")
        return acted(self.tables, x, v, self.algebra.p)


def regular(algebra):
    """Return the algebra as a module over itself."""
    return Module(algebra, algebra.n, algebra.table)


def check_one_algebra(a, b):
    """Raise Malformed if two modules are over unlike algebras."""
    if a.algebra != b.algebra:
        raise Malformed("the modules are over unlike algebras")


def direct_sum(a, b):
    """Return the module of the vectors of `a`, followed by those of `b`."""
    check_one_algebra(a, b)
    before = (0,) * a.m
    behind = (0,) * b.m
    tables = []
    for one, two in zip(a.tables, b.tables):
        tables.append([(*row, *behind) for row in one] + [(*before, *row) for row in two])
    # Module refuses a sum that is too large.
    return Module(a.algebra, a.m + b.m, tables)


def images_of(module, v):
    """Return the list of the products of the basis elements and a vector."""
    return [combine(table, v, module.m, module.algebra.p) for table in module.tables]


def generated(module, vectors):
    """Return the span of the products of all elements and some vectors."""
    p = module.algebra.p
    some = span(vectors, module.m, p)
    return span([w for v in some for w in images_of(module, v)], module.m, p)


def submodule(module, vectors):
    """Return the space of the submodule that vectors generate."""
    if not isinstance(vectors, (list, tuple)) or not all([module.is_vector(v) for v in vectors]):
        raise Malformed("this is no list or tuple of vectors")
    return generated(module, vectors)


def is_submodule(module, value):
    """Return True if the value is the reduced table of a submodule, for every value."""
    return is_reduced(value, module.algebra.p, module.m) and generated(module, value) == value


def check_submodule(module, space):
    """Raise Malformed if the value is no submodule."""
    if not is_submodule(module, space):
        raise Malformed("this is no submodule")


def restricted(module, space):
    """Return the module on a submodule, by coordinates of its rows."""
    check_submodule(module, space)
    pivots = pivots_of(space)
    images = [images_of(module, v) for v in space]
    tables = [[at_places(row[i], pivots) for row in images] for i in range(module.algebra.n)]
    return Module(module.algebra, len(space), tables)


def quotient_module(module, space):
    """Return the quotient by a submodule, by the items at the places that are no pivots."""
    check_submodule(module, space)
    free = free_places(space, module.m)
    p = module.algebra.p
    tables = [[class_of(space, table[k], p) for k in free] for table in module.tables]
    return Module(module.algebra, len(free), tables)
