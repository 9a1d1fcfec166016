"""The checker: it reads papers of the radical, of decompositions of 1, and of isomorphisms.

It computes products and spaces alone, and uses nothing with which the papers are made.
"""

from algebraparts.build import is_monic
from algebraparts.linear import combine, digits, is_reduced, less, space_holds, span
from algebraparts.whole import is_positive, power


def has_form(value, word, size):
    """Return True if the value is a tuple of this size whose first item is this word, for every value."""
    return isinstance(value, tuple) and len(value) == size and value[0] == word


def divides(g, f, p):
    """Return True if a monic polynomial divides another one."""
    size = len(g)
    left = f
    while len(left) >= size:
        # The last item of `g` is 1, so the last item of what is left goes away.
        lower = less(left[-size:], g, left[-1], p)
        left = (*left[:-size], *lower[:-1])
    return not any(left)


def is_irreducible(f, p):
    """Return True if a monic polynomial has no monic divisor of a degree from 1 to half its own."""
    for low in range(1, (len(f) - 1) // 2 + 1):
        for number in range(power(p, low)):
            if divides((*digits(number, low, p), 1), f, p):
                return False
    return True


def is_field_polynomial(algebra, f):
    """Return True if the value tells a monic polynomial, of a degree up to `n`, without a divisor."""
    # No paper with a higher degree is accepted, so no divisors are looked for there: they are too many.
    if not isinstance(f, tuple) or len(f) > algebra.n + 1:
        return False
    return is_monic(f, algebra.p) and is_irreducible(f, algebra.p)


def value_with(algebra, f, c, e):
    """Return the value of a polynomial at `c`, with `e` in the place of 1."""
    images = algebra.left(c)
    total = algebra.zero()
    high = e
    for a in f:
        total = algebra.add(total, algebra.scaled(a, high))
        high = combine(images, high, algebra.n, algebra.p)
    return total


def sum_of_all(algebra, rows):
    """Return the sum of some elements."""
    return combine(rows, [1] * len(rows), algebra.n, algebra.p)


def alike(algebra, space, x, y):
    """Return True if two elements differ by an element of a space."""
    return space_holds(space, algebra.subtract(x, y), algebra.p)


def all_inside(algebra, space, rows):
    """Return True if a space holds all of some elements."""
    return all([space_holds(space, x, algebra.p) for x in rows])


def vanishes(algebra, space, k):
    """Return True if all products of `k` elements of a space are 0."""
    out = space
    # If any power is 0, the one with the exponent n + 1 is.
    for _ in range(min(k, algebra.n + 1) - 1):
        out = span([algebra.multiply(u, v) for u in out for v in space], algebra.n, algebra.p)
    return out == ()


def is_nilpotent_ideal(algebra, space, k):
    """Return True if the values are as number 1 of point 8.2 asks."""
    if not is_reduced(space, algebra.p, algebra.n) or not is_positive(k):
        return False
    if space == ():
        return k == 1
    moved = [x for u in space for x in (*algebra.left(u), *algebra.right(u))]
    return all_inside(algebra, space, moved) and vanishes(algebra, space, k)


def is_unit_table(algebra, value):
    """Return True if the value is a tuple of `m` tuples of `m` elements, `m` from 1 on."""
    if not isinstance(value, tuple) or len(value) == 0:
        return False
    if not all([isinstance(row, tuple) and len(row) == len(value) for row in value]):
        return False
    return all([algebra.is_element(x) for row in value for x in row])


def is_block(algebra, value):
    """Return True if the value is a tuple as number 2 of point 8.2 asks."""
    if not isinstance(value, tuple) or len(value) != 3:
        return False
    if not is_unit_table(algebra, value[0]) or not algebra.is_element(value[1]):
        return False
    return is_field_polynomial(algebra, value[2])


def are_blocks(algebra, value):
    """Return True if the value is a tuple of tuples as number 2 of point 8.2 asks."""
    return isinstance(value, tuple) and all([is_block(algebra, block) for block in value])


def size_of(block):
    """Return the dimension of the matrices that a block tells."""
    table, _, f = block
    return len(table) * len(table) * (len(f) - 1)


def unit_of_block(algebra, table):
    """Return the sum of the matrix units e_ii of a block."""
    return sum_of_all(algebra, [row[i] for i, row in enumerate(table)])


def are_units(algebra, space, blocks):
    """Return True if the matrix units of all blocks have the right products and the right sum."""
    marked = []
    for at, block in enumerate(blocks):
        for i, row in enumerate(block[0]):
            marked.extend([(at, i, j, x) for j, x in enumerate(row)])
    for at, i, j, x in marked:
        for other, k, m, y in marked:
            wanted = blocks[at][0][i][m] if at == other and j == k else algebra.zero()
            if not alike(algebra, space, algebra.multiply(x, y), wanted):
                return False
    total = sum_of_all(algebra, [unit_of_block(algebra, block[0]) for block in blocks])
    return alike(algebra, space, total, algebra.one)


def is_field_of(algebra, space, block):
    """Return True if `c` of a block is as number 3 of point 8.2 asks."""
    table, c, f = block
    e = unit_of_block(algebra, table)
    for x in [y for row in table for y in row]:
        if not alike(algebra, space, algebra.multiply(c, x), algebra.multiply(x, c)):
            return False
    for x in (algebra.multiply(c, e), algebra.multiply(e, c)):
        if not alike(algebra, space, x, c):
            return False
    return space_holds(space, value_with(algebra, f, c, e), algebra.p)


def field_rows(algebra, table, c, d):
    """Return the list of the elements c^t e_ij, with `t` from 0 to d - 1."""
    rows = [x for row in table for x in row]
    found = []
    for _ in range(d):
        found.extend(rows)
        rows = [algebra.multiply(c, x) for x in rows]
    return found


def fill_all(algebra, space, blocks):
    """Return True if the space and the matrices of all blocks fill the algebra."""
    rows = [*space]
    for table, c, f in blocks:
        rows.extend(field_rows(algebra, table, c, len(f) - 1))
    return len(span(rows, algebra.n, algebra.p)) == algebra.n


def takes_radical(algebra, paper):
    """Return True if the value is a paper of the radical, for every value."""
    if not has_form(paper, "radical", 4):
        return False
    _, space, k, blocks = paper
    if not is_nilpotent_ideal(algebra, space, k) or not are_blocks(algebra, blocks):
        return False
    # The sum of the sizes comes first: then there are few units to multiply.
    if len(space) + sum([size_of(block) for block in blocks]) != algebra.n:
        return False
    if not are_units(algebra, space, blocks):
        return False
    return all([is_field_of(algebra, space, block) for block in blocks]) and fill_all(algebra, space, blocks)


def is_part(algebra, value):
    """Return True if the value is a tuple of an element, a space, an element and a polynomial."""
    if not isinstance(value, tuple) or len(value) != 4:
        return False
    e, space, c, f = value
    if not algebra.is_element(e) or not is_reduced(space, algebra.p, algebra.n):
        return False
    return algebra.is_element(c) and is_field_polynomial(algebra, f)


def is_decomposition(algebra, rows):
    """Return True if some elements are idempotents other than 0, any two orthogonal, with the sum 1."""
    if algebra.zero() in rows:
        return False
    for i, e in enumerate(rows):
        for j, f in enumerate(rows):
            if algebra.multiply(e, f) != (e if i == j else algebra.zero()):
                return False
    return sum_of_all(algebra, rows) == algebra.one


def is_primitive_part(algebra, part):
    """Return True if a part is as numbers 2 and 3 of point 8.3 ask."""
    e, space, c, f = part
    inner = span([algebra.multiply(x, e) for x in algebra.left(e)], algebra.n, algebra.p)
    if len(inner) != len(f) - 1 + len(space) or not all_inside(algebra, inner, [c, *space]):
        return False
    one_side = [algebra.multiply(u, v) for u in space for v in inner]
    other_side = [algebra.multiply(v, u) for u in space for v in inner]
    if not all_inside(algebra, space, one_side + other_side) or not vanishes(algebra, space, algebra.n + 1):
        return False
    return space_holds(space, value_with(algebra, f, c, e), algebra.p)


def takes_primitive(algebra, paper):
    """Return True if the value is a paper of a decomposition of 1, for every value."""
    if not has_form(paper, "primitive", 2) or not isinstance(paper[1], tuple):
        return False
    parts = paper[1]
    if not all([is_part(algebra, part) for part in parts]):
        return False
    if not is_decomposition(algebra, [part[0] for part in parts]):
        return False
    return all([is_primitive_part(algebra, part) for part in parts])


def keeps_products(a, b, images):
    """Return True if the linear map with these images keeps products and the 1."""
    for i in range(a.n):
        for j in range(a.n):
            if combine(images, a.table[i][j], b.n, b.p) != b.multiply(images[i], images[j]):
                return False
    return combine(images, a.one, b.n, b.p) == b.one


def takes_map(a, b, paper):
    """Return True if the value is a paper of an isomorphism of two algebras, for every value."""
    if a.p != b.p or a.n != b.n or not has_form(paper, "map", 2):
        return False
    images = paper[1]
    if not isinstance(images, tuple) or len(images) != a.n:
        return False
    if not all([b.is_element(x) for x in images]) or len(span(images, b.n, b.p)) != b.n:
        return False
    return keeps_products(a, b, images)
