"""Block idempotents, primitive decompositions, linked idempotents and Peirce parts."""

from algebraparts.algebra import Algebra
from algebraparts.centre import centre, is_commutative
from algebraparts.errors import Refused
from algebraparts.ideals import check_element, check_rows, products, quotient, quotient_lift, span
from algebraparts.lifting import is_idempotent, lifted_system
from algebraparts.linear import at_places, columns, combine, members, pivots_of, relations, solve
from algebraparts.radical import radical


def fixed_space(algebra):
    """Return the space of all `z` of the centre whose power p is `z`."""
    space = centre(algebra)
    moved = [algebra.subtract(algebra.power(z, algebra.p), z) for z in space]
    weights = relations(moved, algebra.n, algebra.p)
    return span(algebra, [combine(space, row, algebra.n, algebra.p) for row in weights])


def split_by(algebra, e, z):
    """Return the list of the parts, other than 0, of an idempotent `e` on which `z` is one number."""
    found = []
    for a in range(algebra.p):
        # A number to the power p - 1 is 1, unless it is 0: so 1 is left where `z` is `a`.
        moved = algebra.subtract(z, algebra.scaled(a, algebra.one))
        where = algebra.subtract(algebra.one, algebra.power(moved, algebra.p - 1))
        part = algebra.multiply(e, where)
        if part != algebra.zero():
            found.append(part)
    return found


def block_idempotents(algebra):
    """Return the tuple of the primitive idempotents of the centre, ascending."""
    parts = [algebra.one]
    for z in fixed_space(algebra):
        parts = [part for e in parts for part in split_by(algebra, e, z)]
    return tuple(sorted(parts))


def is_connected(algebra):
    """Return True if there is one block idempotent."""
    return len(block_idempotents(algebra)) == 1


def between(algebra, e, f):
    """Return the space e A f of two elements."""
    check_element(algebra, e)
    check_element(algebra, f)
    return span(algebra, [algebra.multiply(x, f) for x in algebra.left(e)])


def corner(algebra, e):
    """Return the space e A e of an idempotent."""
    if not is_idempotent(algebra, e):
        raise Refused("idempotent")
    return between(algebra, e, e)


def corner_algebra(algebra, e):
    """Return the corner of an idempotent other than 0 as an algebra, by coordinates of its rows."""
    space = corner(algebra, e)
    pivots = pivots_of(space)
    table = [[at_places(algebra.multiply(x, y), pivots) for y in space] for x in space]
    return Algebra(algebra.p, table)


def is_primitive(algebra, e):
    """Return True if the element is a primitive idempotent."""
    if not is_idempotent(algebra, e) or e == algebra.zero():
        return False
    part = corner_algebra(algebra, e)
    # Without a radical, a commutative algebra with one block is a field.
    top = quotient(part, radical(part))
    return is_commutative(top) and is_connected(top)


def idempotent_power(algebra, x):
    """Return the idempotent among the powers of an element: 0 exactly if it is nilpotent."""
    high = algebra.power(x, algebra.n)
    rows = [high]
    for _ in range(algebra.n):
        rows.append(algebra.multiply(rows[-1], x))
    # Some polynomial h in x has high high h = high: then high h is the idempotent.
    squares = [algebra.multiply(high, row) for row in rows]
    weights = solve(columns(squares, algebra.n), len(rows), high, algebra.p)
    return combine(rows, weights, algebra.n, algebra.p)


def inner_idempotent(top, space, e):
    """Return an idempotent other than 0 and `e` of the corner of `e`, a space, or None."""
    # An element that is neither nilpotent nor has an inverse in the corner has one among its powers.
    for x in members(space, top.n, top.p):
        part = idempotent_power(top, x)
        if part != top.zero() and part != e:
            return part
    return None


def parts_in_block(top, e, d):
    """Return the list of the members of a primitive decomposition of an idempotent other than 0.

    It lies in a block, whose centre has the dimension `d`, of an algebra without a radical.
    """
    space = between(top, e, e)
    # The corner consists of the matrices of some size over a field of this dimension.
    if len(space) == d:
        return [e]
    part = inner_idempotent(top, space, e)
    return parts_in_block(top, part, d) + parts_in_block(top, top.subtract(e, part), d)


def block_parts(top, e):
    """Return the list of a primitive decomposition of a block idempotent of an algebra without a radical."""
    return parts_in_block(top, e, len(products(top, [e], centre(top))))


def primitive_decomposition(algebra):
    """Return the tuple of a primitive decomposition of 1."""
    space = radical(algebra)
    top = quotient(algebra, space)
    parts = [part for e in block_idempotents(top) for part in block_parts(top, e)]
    return lifted_system(algebra, space, [quotient_lift(algebra, space, part) for part in parts])


def check_primitive(algebra, rows):
    """Raise Refused("primitive") if one of the elements is no primitive idempotent."""
    if not all([is_primitive(algebra, e) for e in rows]):
        raise Refused("primitive")


def link(algebra, e, f):
    """Return the pair (a, b) of two linked primitive idempotents, or None."""
    space = between(algebra, e, e)
    for a in between(algebra, e, f):
        for b in between(algebra, f, e):
            # In the corner of `e` a product that is not nilpotent has an inverse.
            product = algebra.multiply(a, b)
            rows = [algebra.multiply(product, x) for x in space]
            weights = solve(columns(rows, algebra.n), len(rows), e, algebra.p)
            if weights is not None:
                inner = combine(space, weights, algebra.n, algebra.p)
                return a, algebra.multiply(b, inner)
    return None


def linking(algebra, e, f):
    """Return a pair (a, b) with a b = e and b a = f, in e A f and f A e, or None."""
    check_element(algebra, e)
    check_element(algebra, f)
    check_primitive(algebra, [e, f])
    return link(algebra, e, f)


def kind_of(algebra, firsts, f):
    """Return the index of the first idempotent to which `f` is linked; their number if there is none."""
    for k, e in enumerate(firsts):
        if link(algebra, e, f) is not None:
            return k
    return len(firsts)


def grouped(algebra, rows):
    """Return the list of the lists of the indexes of linked ones of some primitive idempotents."""
    found = []
    for k, f in enumerate(rows):
        # Being linked is transitive, so the first one of a kind is enough.
        place = kind_of(algebra, [rows[kind[0]] for kind in found], f)
        if place == len(found):
            found.append([])
        found[place].append(k)
    return found


def kinds(algebra, idempotents):
    """Return the tuple of the tuples of the indexes of linked primitive idempotents."""
    check_rows(algebra, idempotents)
    check_primitive(algebra, idempotents)
    return tuple([tuple(kind) for kind in grouped(algebra, idempotents)])


def basic_idempotents(algebra):
    """Return the tuple of the first ones of the kinds of the primitive decomposition."""
    parts = primitive_decomposition(algebra)
    return tuple([parts[kind[0]] for kind in grouped(algebra, parts)])


def is_full_system(algebra, rows):
    """Return True if the rows are idempotents, any two orthogonal, with the sum 1."""
    total = algebra.zero()
    for i, e in enumerate(rows):
        total = algebra.add(total, e)
        for j, f in enumerate(rows):
            if algebra.multiply(e, f) != (e if i == j else algebra.zero()):
                return False
    return total == algebra.one


def peirce_parts(algebra, idempotents):
    """Return the tuple of the tuples of the spaces e_i A e_j."""
    check_rows(algebra, idempotents)
    if not is_full_system(algebra, idempotents):
        raise Refused("system")
    return tuple([tuple([between(algebra, e, f) for f in idempotents]) for e in idempotents])
