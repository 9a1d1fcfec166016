"""Simple modules, radicals and socles of modules, composition series and the Cartan matrix."""

from algebraparts.errors import Malformed
from algebraparts.ideals import left_ideal
from algebraparts.idempotents import basic_idempotents, between
from algebraparts.lifting import is_idempotent
from algebraparts.linear import basis_row, class_of, columns, kernel, space_holds, span
from algebraparts.modules import acted, generated, quotient_module, regular, restricted
from algebraparts.radical import radical


def whole_space(module):
    """Return the space of all vectors."""
    return tuple([basis_row(module.m, k) for k in range(module.m)])


def times_space(module, rows, space):
    """Return the span of the products of some elements and the vectors of a space."""
    p = module.algebra.p
    return span([acted(module.tables, x, v, p) for x in rows for v in space], module.m, p)


def is_simple(module):
    """Return True if the module is simple."""
    return sum(multiplicities(module)) == 1


def module_radical(module):
    """Return the radical of a module."""
    return times_space(module, radical(module.algebra), whole_space(module))


def socle_above(module, lower, space):
    """Return the space of the vectors that elements `lower` take into a submodule."""
    p = module.algebra.p
    rows = []
    for r in lower:
        classes = [class_of(space, acted(module.tables, r, v, p), p) for v in whole_space(module)]
        rows.extend(columns(classes, module.m - len(space)))
    return kernel(rows, module.m, p)


def socle(module):
    """Return the socle of a module."""
    return socle_above(module, radical(module.algebra), ())


def loewy_length(module):
    """Return the least number of products with the radical that leaves 0."""
    lower = radical(module.algebra)
    space = whole_space(module)
    k = 0
    while space != ():
        space = times_space(module, lower, space)
        k += 1
    return k


def projective(algebra, e):
    """Return the module on the left ideal of an idempotent."""
    if not is_idempotent(algebra, e):
        raise Malformed("this is no idempotent")
    return restricted(regular(algebra), left_ideal(algebra, [e]))


def simple_of(algebra, e):
    """Return the quotient of the module of a primitive idempotent by its radical."""
    module = projective(algebra, e)
    return quotient_module(module, module_radical(module))


def simple_modules(algebra):
    """Return the tuple of the simple modules, one for each basic idempotent."""
    return tuple([simple_of(algebra, e) for e in basic_idempotents(algebra)])


def degrees(algebra, rows):
    """Return the list of the degrees of the simple modules of some primitive idempotents."""
    lower = radical(algebra)
    found = []
    for e in rows:
        # The degree is the dimension of e S: of e A e modulo e (rad A) e.
        inner = [algebra.multiply(algebra.multiply(e, r), e) for r in lower]
        found.append(len(between(algebra, e, e)) - len(span(inner, algebra.n, algebra.p)))
    return found


def multiplicities(module):
    """Return the tuple of the numbers of the quotients in a composition series, for each simple module."""
    rows = basic_idempotents(module.algebra)
    found = []
    for e, d in zip(rows, degrees(module.algebra, rows)):
        found.append(len(times_space(module, [e], whole_space(module))) // d)
    return tuple(found)


def cartan_matrix(algebra):
    """Return the tuple of the rows of the Cartan matrix."""
    rows = basic_idempotents(algebra)
    pairs = list(zip(rows, degrees(algebra, rows)))
    return tuple([tuple([len(between(algebra, e, f)) // d for f in rows]) for e, d in pairs])


def next_space(module, lower, rows, space):
    """Return a submodule above `space`, with a simple quotient by it."""
    p = module.algebra.p
    for w in socle_above(module, lower, space):
        for e in rows:
            v = acted(module.tables, e, w, p)
            # Modulo `space`, A v is an image of A e that the radical takes to 0: it is simple, or 0.
            if not space_holds(space, v, p):
                return generated(module, (*space, v))
    # Only above the whole module there is none.
    return whole_space(module)


def composition_series(module):
    """Return the tuple of the reduced tables of a composition series, from 0 to the module."""
    lower = radical(module.algebra)
    rows = basic_idempotents(module.algebra)
    found = [()]
    while len(found[-1]) < module.m:
        found.append(next_space(module, lower, rows, found[-1]))
    return tuple(found)
