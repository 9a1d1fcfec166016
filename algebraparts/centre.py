"""The centre, generated algebras, minimal polynomials and units."""

from algebraparts.errors import Malformed, Refused
from algebraparts.ideals import check_element, products, span, zeros_of
from algebraparts.linear import coordinates, is_row, reduced


def commutators(algebra, y):
    """Return the list of the y b - b y for the basis elements b."""
    return [algebra.subtract(a, b) for a, b in zip(algebra.left(y), algebra.right(y))]


def basis_of(algebra):
    """Return the list of the basis elements."""
    return [algebra.basis(i) for i in range(algebra.n)]


def centralizer(algebra, rows):
    """Return the space of all elements that commute with all of the rows."""
    return zeros_of(algebra, [commutators(algebra, y) for y in span(algebra, rows)])


def centre(algebra):
    """Return the space of all elements that commute with all elements."""
    return centralizer(algebra, basis_of(algebra))


def commutator_space(algebra):
    """Return the space that all x y - y x span."""
    return span(algebra, [x for y in basis_of(algebra) for x in commutators(algebra, y)])


def is_commutative(algebra):
    """Return True if all elements commute."""
    return commutator_space(algebra) == ()


def generated_algebra(algebra, rows):
    """Return the least space that holds the unit element, the rows, and products."""
    some = span(algebra, [algebra.one, *span(algebra, rows)])
    space = ()
    wider = some
    while wider != space:
        space = wider
        # `some` holds 1, so the products with it hold the space.
        wider = products(algebra, space, some)
    return space


def minimal_polynomial(algebra, x):
    """Return the minimal polynomial of an element, the constant first."""
    check_element(algebra, x)
    powers = []
    last = algebra.one
    weights = None
    while weights is None:
        powers.append(last)
        last = algebra.multiply(last, x)
        weights = coordinates(powers, last, algebra.p)
    return (*[-a % algebra.p for a in weights], 1)


def is_polynomial(value, p):
    """Return True if the value tells a polynomial, for every value."""
    if not isinstance(value, tuple) or not is_row(value, p, len(value)):
        return False
    return len(value) == 0 or value[-1] != 0


def value_at(algebra, f, x):
    """Return the value of a polynomial at an element."""
    check_element(algebra, x)
    if not is_polynomial(f, algebra.p):
        raise Malformed("this is no polynomial")
    total = algebra.zero()
    for a in reversed(f):
        total = algebra.add(algebra.multiply(total, x), algebra.scaled(a, algebra.one))
    return total


def is_unit(algebra, x):
    """Return True if the element has an inverse."""
    check_element(algebra, x)
    # If the products x y fill the algebra, 1 is one of them.
    return len(reduced(algebra.left(x), algebra.n, algebra.p)[0]) == algebra.n


def is_nilpotent(algebra, x):
    """Return True if some power of the element is 0."""
    check_element(algebra, x)
    return algebra.power(x, algebra.n) == algebra.zero()


def inverse(algebra, x):
    """Return the inverse of an element; raise Refused("unit") if there is none."""
    if not is_unit(algebra, x):
        raise Refused("unit")
    return coordinates(algebra.left(x), algebra.one, algebra.p)


def zero_partner(algebra, x):
    """Return an element other than 0 whose products with `x` are 0, or None for a unit."""
    check_element(algebra, x)
    partners = zeros_of(algebra, [algebra.left(x), algebra.right(x)])
    return partners[0] if partners else None


def units(algebra):
    """Yield all units, ascending."""
    for x in algebra.all_elements():
        if is_unit(algebra, x):
            yield x
