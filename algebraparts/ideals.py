"""Spaces of an algebra: ideals, their powers and annihilators, and quotients."""

from algebraparts.algebra import Algebra
from algebraparts.errors import Malformed, Refused
from algebraparts.linear import class_of, columns, free_places, is_reduced, is_row, kernel, reduced, spread
from algebraparts.whole import is_positive


def check_element(algebra, x):
    """Raise Malformed if the value is no element, for every value."""
    if not algebra.is_element(x):
        raise Malformed("this is no element of the algebra")


def check_rows(algebra, rows):
    """Raise Malformed if the value is no list or tuple of elements, for every value."""
    if not isinstance(rows, (list, tuple)) or not all([algebra.is_element(x) for x in rows]):
        raise Malformed("this is no list or tuple of rows of the algebra")


def check_space(algebra, space):
    """Raise Malformed if the value is no space of the algebra, for every value."""
    if not is_space(algebra, space):
        raise Malformed("this is no space of the algebra")


def span(algebra, rows):
    """Return the space that elements of the algebra span."""
    check_rows(algebra, rows)
    return reduced(rows, algebra.n, algebra.p)[0]


def is_space(algebra, value):
    """Return True if the value is a space of the algebra, for every value."""
    return is_reduced(value, algebra.p, algebra.n)


def left_ideal(algebra, rows):
    """Return the least left ideal that holds the rows."""
    return span(algebra, [x for u in span(algebra, rows) for x in algebra.right(u)])


def right_ideal(algebra, rows):
    """Return the least right ideal that holds the rows."""
    return span(algebra, [x for u in span(algebra, rows) for x in algebra.left(u)])


def ideal(algebra, rows):
    """Return the least ideal that holds the rows."""
    return right_ideal(algebra, left_ideal(algebra, rows))


def is_left_ideal(algebra, value):
    """Return True if the value is a space that is a left ideal, for every value."""
    return is_space(algebra, value) and left_ideal(algebra, value) == value


def is_right_ideal(algebra, value):
    """Return True if the value is a space that is a right ideal, for every value."""
    return is_space(algebra, value) and right_ideal(algebra, value) == value


def is_ideal(algebra, value):
    """Return True if the value is a space that is an ideal, for every value."""
    return is_left_ideal(algebra, value) and is_right_ideal(algebra, value)


def products(algebra, one, two):
    """Return the space that the products of a row of `one` and a row of `two` span."""
    firsts = span(algebra, one)
    seconds = span(algebra, two)
    return span(algebra, [algebra.multiply(u, v) for u in firsts for v in seconds])


def power_of(algebra, space, k):
    """Return the power of a space with the exponent `k`, from 1 on."""
    check_space(algebra, space)
    if not is_positive(k):
        raise Malformed("the exponent is no integer from 1 on")
    out = space
    for place in reversed(range(k.bit_length() - 1)):
        out = products(algebra, out, out)
        if (k >> place) % 2 == 1:
            out = products(algebra, out, space)
    return out


def nilpotency(algebra, space):
    """Return the least `k` from 1 on for which the power of the space is 0, or None."""
    check_space(algebra, space)
    out = space
    for k in range(1, algebra.n + 2):
        if out == ():
            return k
        out = products(algebra, out, space)
    return None


def zeros_of(algebra, tables):
    """Return the space of all `x` for which the sum of the multiples x_i of the rows of each table is 0."""
    conditions = [column for table in tables for column in columns(table, algebra.n)]
    return kernel(conditions, algebra.n, algebra.p)


def left_annihilator(algebra, space):
    """Return the space of all `x` whose products x u with the space are 0."""
    check_space(algebra, space)
    return zeros_of(algebra, [algebra.right(u) for u in space])


def right_annihilator(algebra, space):
    """Return the space of all `x` whose products u x with the space are 0."""
    check_space(algebra, space)
    return zeros_of(algebra, [algebra.left(u) for u in space])


def check_divisor(algebra, space):
    """Raise Malformed for no space, Refused("ideal") for no ideal, Refused("whole") for the whole algebra."""
    check_space(algebra, space)
    if not is_ideal(algebra, space):
        raise Refused("ideal")
    if len(space) == algebra.n:
        raise Refused("whole")


def quotient(algebra, space):
    """Return the quotient by an ideal, in the basis of the classes at the free places."""
    check_divisor(algebra, space)
    free = free_places(space, algebra.n)
    table = [[class_of(space, algebra.table[i][j], algebra.p) for j in free] for i in free]
    return Algebra(algebra.p, table)


def quotient_image(algebra, space, x):
    """Return the image of an element in the quotient."""
    check_divisor(algebra, space)
    check_element(algebra, x)
    return class_of(space, x, algebra.p)


def quotient_lift(algebra, space, y):
    """Return the element with the image `y` and 0 at the pivots of the ideal."""
    check_divisor(algebra, space)
    if not is_row(y, algebra.p, algebra.n - len(space)):
        raise Malformed("this is no element of the quotient")
    return spread(y, space, algebra.n)


def image_space(algebra, space, u):
    """Return the space of the images of the elements of the space `u`."""
    check_divisor(algebra, space)
    check_space(algebra, u)
    images = [class_of(space, x, algebra.p) for x in u]
    return reduced(images, algebra.n - len(space), algebra.p)[0]


def lifted_space(algebra, space, classes):
    """Return the space of all elements with image in a space of the quotient."""
    check_divisor(algebra, space)
    if not is_reduced(classes, algebra.p, algebra.n - len(space)):
        raise Malformed("this is no space of the quotient")
    lifts = [spread(y, space, algebra.n) for y in classes]
    return span(algebra, [*space, *lifts])
