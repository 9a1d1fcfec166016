"""Tables of groups, and group algebras."""

from algebraparts.algebra import check_prime
from algebraparts.build import algebra_of_places
from algebraparts.errors import Malformed
from algebraparts.whole import is_integer


def cyclic_table(n):
    """Return the table of the cyclic group of the order `n`."""
    return tuple([tuple([(i + j) % n for j in range(n)]) for i in range(n)])


def dihedral_table(n):
    """Return the table of the dihedral group of the order 2 n: rotations, then reflections."""
    turned = [tuple([(i + j) % n for j in range(n)]) for i in range(n)]
    mirrored = [tuple([(i - j) % n for j in range(n)]) for i in range(n)]
    rotations = [(*row, *[n + k for k in row]) for row in turned]
    reflections = [(*[n + k for k in row], *row) for row in mirrored]
    return tuple(rotations + reflections)


def direct_table(one, two):
    """Return the table of the direct product of two groups."""
    m = len(two)
    return tuple([tuple([i * m + j for i in above for j in below]) for above in one for below in two])


def is_square(value):
    """Return True if the value is a table of indexes of its rows, for every value."""
    if not isinstance(value, (list, tuple)) or len(value) == 0:
        return False
    return all([is_index_row(row, len(value)) for row in value])


def is_index_row(value, n):
    """Return True if the value is a list or tuple of `n` integers from 0 to n - 1."""
    if not isinstance(value, (list, tuple)) or len(value) != n:
        return False
    return all([is_integer(k) and 0 <= k < n for k in value])


def has_unit(table):
    """Return True if 0 is the unit element."""
    return all([table[0][k] == k and table[k][0] == k for k in range(len(table))])


def has_inverses(table):
    """Return True if each element has an element with the product 0."""
    return all([0 in row for row in table])


def is_middle(table, b):
    """Return True if (a b) c = a (b c) for all `a` and `c`."""
    for row in table:
        if list(table[row[b]]) != [row[k] for k in table[b]]:
            return False
    return True


def closure(table, some):
    """Return a dict that has as its keys 0 and the products, from the left, of some elements."""
    reached = {0: True}
    waiting = [0]
    while waiting:
        row = table[waiting.pop()]
        for b in some:
            if row[b] not in reached:
                reached[row[b]] = True
                waiting.append(row[b])
    return reached


def is_associative_table(table):
    """Return True if the product of a table with the unit element 0 is associative."""
    # The elements that are allowed in the middle are closed under products (Light), so it
    # is enough to look at generators; a group has few.
    some = []
    reached = {0: True}
    for b in range(len(table)):
        if b not in reached:
            if not is_middle(table, b):
                return False
            some.append(b)
            reached = closure(table, some)
    return True


def is_group(value):
    """Return True if the value is the table of a group, for every value."""
    if not is_square(value):
        return False
    return has_unit(value) and has_inverses(value) and is_associative_table(value)


def group_algebra(p, table):
    """Return the group algebra of a table of a group."""
    check_prime(p)
    if not is_group(table):
        raise Malformed("this is no table of a group")
    return algebra_of_places(p, table)
