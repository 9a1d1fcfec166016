"""The structure of Wedderburn and Artin: matrix units and fields of the blocks, and the type."""

from algebraparts.centre import centre
from algebraparts.ideals import check_element, products, quotient, quotient_lift
from algebraparts.idempotents import block_idempotents, block_parts, link
from algebraparts.linear import coordinates, members, span
from algebraparts.radical import radical
from algebraparts.whole import power


class Block:
    """A block modulo the radical: the matrices of the size `m` over a field of the degree `d`."""

    def __init__(self, m, d, table, generator, polynomial):
        self.m = m
        self.d = d
        self.units = table
        self.generator = generator
        self.polynomial = polynomial

    def __eq__(self, other):
        if not isinstance(other, Block) or self.m != other.m or self.d != other.d:
            return False
        if self.units != other.units or self.generator != other.generator:
            return False
        return self.polynomial == other.polynomial


def powers_below(algebra, e, c, d):
    """Return the list of the powers e, c, .., with `d` members, of an element `c` with e c = c."""
    rows = [e]
    for _ in range(d - 1):
        rows.append(algebra.multiply(rows[-1], c))
    return rows


def generator_of(top, e, field):
    """Return an element other than 0 of a field with the 1 `e` whose powers are a basis of it."""
    d = len(field)
    for c in members(field, top.n, top.p):
        if c != top.zero() and len(span(powers_below(top, e, c, d), top.n, top.p)) == d:
            return c
    # Each finite field has a generator.
    return None


def polynomial_of(top, e, c, d):
    """Return the monic polynomial of the degree `d` with the value 0 at a generator."""
    *rows, last = powers_below(top, e, c, d + 1)
    return (*[-a % top.p for a in coordinates(rows, last, top.p)], 1)


def unit_table(top, parts):
    """Return the table of the matrix units of a primitive decomposition of a block idempotent."""
    links = [(parts[0], parts[0])] + [link(top, parts[0], part) for part in parts[1:]]
    return [[top.multiply(b, pair[0]) for pair in links] for _, b in links]


def block_of(algebra, space, top, e):
    """Return the block of a block idempotent of the quotient by the radical."""
    parts = block_parts(top, e)
    field = products(top, [e], centre(top))
    d = len(field)
    c = generator_of(top, e, field)
    rows = unit_table(top, parts)
    table = tuple([tuple([quotient_lift(algebra, space, x) for x in row]) for row in rows])
    return Block(len(parts), d, table, quotient_lift(algebra, space, c), polynomial_of(top, e, c, d))


def structure(algebra):
    """Return the tuple of the blocks, in ascending order of the pairs (m, d)."""
    space = radical(algebra)
    top = quotient(algebra, space)
    blocks = [block_of(algebra, space, top, e) for e in block_idempotents(top)]
    return tuple(sorted(blocks, key=lambda block: (block.m, block.d)))


def wedderburn_type(algebra):
    """Return the tuple of the pairs (m, d) of the blocks, in ascending order."""
    return tuple([(block.m, block.d) for block in structure(algebra)])


def matrix_at(algebra, block, x):
    """Return the matrix of an element at a block: a table of numbers of its field."""
    check_element(algebra, x)
    first = block.units[0]
    # For k in the field, e_1i (k e_ij) e_j1 is k e_11, which tells k: the powers of the
    # generator, times e_11, are independent modulo the radical.
    rows = [first[0]]
    for _ in range(block.d - 1):
        rows.append(algebra.multiply(block.generator, rows[-1]))
    rows.extend(radical(algebra))
    lines = [algebra.multiply(left, x) for left in first]
    corners = [[algebra.multiply(line, row[0]) for row in block.units] for line in lines]
    return tuple([tuple([coordinates(rows, y, algebra.p)[:block.d] for y in line]) for line in corners])


def unit_count(algebra):
    """Return the number of the units."""
    many = power(algebra.p, len(radical(algebra)))
    for m, d in wedderburn_type(algebra):
        size = power(algebra.p, d)
        for k in range(m):
            many = many * (power(size, m) - power(size, k))
    return many
