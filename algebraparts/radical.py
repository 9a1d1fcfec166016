"""The radical of an algebra, its powers and its index."""

from algebraparts.ideals import products, span
from algebraparts.linear import at_places, columns, combine, dot, pivots_of, relations
from algebraparts.whole import power


def matrix_product(one, two, modulus):
    """Return the product of two square tables of integers, modulo a number."""
    turned = columns(two, len(two))
    return [[sum([a * b for a, b in zip(row, column)]) % modulus for column in turned] for row in one]


def matrix_power(matrix, k, modulus):
    """Return the power of a square table of integers with an exponent from 1 on."""
    out = matrix
    for place in reversed(range(k.bit_length() - 1)):
        out = matrix_product(out, out, modulus)
        if (k >> place) % 2 == 1:
            out = matrix_product(out, matrix, modulus)
    return out


def trace_part(algebra, z, scale):
    """Return the trace of the power `scale` of the matrix of `z`, divided by `scale`, modulo p."""
    # Only the last digit of the quotient counts, so the trace is needed modulo p times the scale.
    modulus = algebra.p * scale
    matrix = matrix_power(algebra.left(z), scale, modulus)
    trace = sum([matrix[k][k] for k in range(algebra.n)])
    return trace % modulus // scale


def narrowed(algebra, space, scale):
    """Return the space of the `x` of an ideal for which each trace_part of x b is 0."""
    # The part is linear on the ideal, and the products lie in it: its basis is enough.
    values = [trace_part(algebra, u, scale) for u in space]
    pivots = pivots_of(space)
    rows = []
    for u in space:
        rows.append(tuple([dot(at_places(x, pivots), values, algebra.p) for x in algebra.left(u)]))
    weights = relations(rows, algebra.n, algebra.p)
    return span(algebra, [combine(space, row, algebra.n, algebra.p) for row in weights])


def radical(algebra):
    """Return the radical, the largest nilpotent ideal."""
    space = tuple([algebra.basis(i) for i in range(algebra.n)])
    k = 0
    while power(algebra.p, k) <= algebra.n:
        space = narrowed(algebra, space, power(algebra.p, k))
        k += 1
    return space


def radical_powers(algebra):
    """Return the tuple of the powers of the radical other than 0."""
    first = radical(algebra)
    found = []
    space = first
    while space != ():
        found.append(space)
        space = products(algebra, space, first)
    return tuple(found)


def radical_index(algebra):
    """Return the least exponent from 1 on for which the power of the radical is 0."""
    return len(radical_powers(algebra)) + 1


def is_semisimple(algebra):
    """Return True if the radical is 0."""
    return radical(algebra) == ()
