"""Idempotents, lifted over nilpotent ideals."""

from algebraparts.errors import Refused
from algebraparts.ideals import check_element, check_rows, check_space, is_ideal, nilpotency
from algebraparts.linear import space_holds


def is_idempotent(algebra, x):
    """Return True if x x = x."""
    check_element(algebra, x)
    return algebra.multiply(x, x) == x


def check_nilpotent_ideal(algebra, space):
    """Raise Refused("ideal") if the space is no nilpotent ideal."""
    if not is_ideal(algebra, space) or nilpotency(algebra, space) is None:
        raise Refused("ideal")


def defect(algebra, x):
    """Return x x - x."""
    return algebra.subtract(algebra.multiply(x, x), x)


def lift(algebra, x):
    """Return the idempotent of an element for which x x - x is nilpotent."""
    square = algebra.multiply(x, x)
    while square != x:
        cube = algebra.multiply(square, x)
        x = algebra.subtract(algebra.scaled(3, square), algebra.scaled(2, cube))
        square = algebra.multiply(x, x)
    return x


def lifted(algebra, ideal, x):
    """Return the lifted idempotent of an element that is idempotent modulo a nilpotent ideal."""
    check_space(algebra, ideal)
    check_element(algebra, x)
    check_nilpotent_ideal(algebra, ideal)
    if not space_holds(ideal, defect(algebra, x), algebra.p):
        raise Refused("idempotent")
    return lift(algebra, x)


def is_system(algebra, ideal, rows):
    """Return True if the rows are an orthogonal system modulo the ideal."""
    for i, x in enumerate(rows):
        for j, y in enumerate(rows):
            wanted = x if i == j else algebra.zero()
            difference = algebra.subtract(algebra.multiply(x, y), wanted)
            if not space_holds(ideal, difference, algebra.p):
                return False
    return True


def lifted_system(algebra, ideal, rows):
    """Return the tuple of the lifted system of an orthogonal system modulo a nilpotent ideal."""
    check_space(algebra, ideal)
    check_rows(algebra, rows)
    check_nilpotent_ideal(algebra, ideal)
    if not is_system(algebra, ideal, rows):
        raise Refused("system")
    found = []
    left = algebra.one
    for x in rows:
        # `left` is 1 less the sum of those before, so that the new one is orthogonal to them.
        new = lift(algebra, algebra.multiply(algebra.multiply(left, x), left))
        found.append(new)
        left = algebra.subtract(left, new)
    return tuple(found)
