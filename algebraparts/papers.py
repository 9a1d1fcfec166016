"""Papers that the checker accepts: of the radical, of decompositions of 1, and of isomorphisms."""

from algebraparts.build import check_one_prime
from algebraparts.checker import field_rows, unit_of_block, value_with
from algebraparts.errors import Refused
from algebraparts.idempotents import corner, corner_algebra, primitive_decomposition
from algebraparts.linear import combine, coordinates, members, span
from algebraparts.radical import is_semisimple, radical, radical_index
from algebraparts.structure import structure


def radical_paper(algebra):
    """Return a paper of the radical."""
    blocks = [(block.units, block.generator, block.polynomial) for block in structure(algebra)]
    return "radical", radical(algebra), radical_index(algebra), tuple(blocks)


def primitive_part(algebra, e):
    """Return the part of a paper for a primitive idempotent."""
    n = algebra.n
    p = algebra.p
    space = corner(algebra, e)
    part = corner_algebra(algebra, e)
    # The corner of a primitive idempotent is a field modulo its radical: it has one block.
    block = structure(part)[0]
    lower = span([combine(space, r, n, p) for r in radical(part)], n, p)
    return e, lower, combine(space, block.generator, n, p), block.polynomial


def primitive_paper(algebra):
    """Return a paper of a decomposition of 1 into primitive idempotents."""
    return "primitive", tuple([primitive_part(algebra, e) for e in primitive_decomposition(algebra)])


def root_in(algebra, block, f):
    """Return an element of the field of a block, of an algebra without a radical, with the value 0."""
    e = unit_of_block(algebra, block.units)
    field = span(field_rows(algebra, [[e]], block.generator, block.d), algebra.n, algebra.p)
    for c in members(field, algebra.n, algebra.p):
        if value_with(algebra, f, c, e) == algebra.zero():
            return c
    # A field with p^d elements has a root of each irreducible polynomial of the degree d.
    return None


def map_between(a, b, pairs):
    """Return the tuple of the images of the basis elements, for pairs of blocks of one kind."""
    old = []
    new = []
    for one, two in pairs:
        old.extend(field_rows(a, one.units, one.generator, one.d))
        new.extend(field_rows(b, two.units, root_in(b, two, one.polynomial), two.d))
    # The units times powers of the generators are a basis of each algebra.
    weights = [coordinates(old, a.basis(k), a.p) for k in range(a.n)]
    return tuple([combine(new, row, b.n, b.p) for row in weights])


def map_paper(a, b):
    """Return a paper of an isomorphism of two algebras without a radical, or None."""
    check_one_prime(a, b)
    if not is_semisimple(a) or not is_semisimple(b):
        raise Refused("radical")
    firsts = structure(a)
    seconds = structure(b)
    if [(block.m, block.d) for block in firsts] != [(block.m, block.d) for block in seconds]:
        return None
    return "map", map_between(a, b, list(zip(firsts, seconds)))
