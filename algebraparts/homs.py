"""Homomorphisms of modules, told by their tables."""

from algebraparts.algebra import MOST
from algebraparts.errors import Refused
from algebraparts.linear import basis_row, combine, less, members, relations, span
from algebraparts.modules import check_one_algebra
from algebraparts.whole import power


def table_of(row, many, width):
    """Return the table of `many` rows that are written one behind the other in a row."""
    return tuple([row[k * width:k * width + width] for k in range(many)])


def defect(one, two, table, width, p):
    """Return f(b v) - b f(v) for all unit vectors v, one behind the other.

    `one` and `two` are the tables of b on the two modules, `table` is that of f.
    """
    out = []
    for moved, image in zip(one, table):
        after = combine(table, moved, width, p)
        before = combine(two, image, width, p)
        out.extend(less(after, before, 1, p))
    return tuple(out)


def common_maps(a, b):
    """Return the space of the homomorphisms from `a` to `b`, their tables as rows."""
    p = a.algebra.p
    size = a.m * b.m
    space = tuple([basis_row(size, k) for k in range(size)])
    # Each basis element of the algebra narrows the space, so that the last ones have little to do.
    for one, two in zip(a.tables, b.tables):
        defects = [defect(one, two, table_of(row, a.m, b.m), b.m, p) for row in space]
        weights = relations(defects, size, p)
        space = span([combine(space, row, size, p) for row in weights], size, p)
    return space


def homomorphisms(a, b):
    """Return the tuple of the tables of the reduced basis of the homomorphisms."""
    check_one_algebra(a, b)
    return tuple([table_of(row, a.m, b.m) for row in common_maps(a, b)])


def degree(module):
    """Return the dimension of the homomorphisms of a module to itself."""
    return len(common_maps(module, module))


def find_isomorphism(a, b):
    """Return the table of a homomorphism that is one-to-one and onto, or None."""
    check_one_algebra(a, b)
    if a.m != b.m:
        return None
    p = a.algebra.p
    size = a.m * b.m
    space = common_maps(a, b)
    if power(p, len(space)) > MOST:
        raise Refused("many")
    for row in members(space, size, p):
        table = table_of(row, a.m, b.m)
        if len(span(table, b.m, p)) == a.m:
            return table
    return None
