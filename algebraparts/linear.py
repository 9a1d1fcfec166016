"""Rows and spaces modulo a prime; a space is told by its reduced table."""

from algebraparts.whole import inverse, is_integer, power


def is_row(value, p, n):
    """Return True if the value is a row of the length `n`, for every value."""
    if not isinstance(value, tuple) or len(value) != n:
        return False
    return all([is_integer(a) and 0 <= a < p for a in value])


def add(v, w, p):
    """Return the sum of two rows."""
    return tuple([(a + b) % p for a, b in zip(v, w)])


def scaled(v, a, p):
    """Return the multiple of a row by an integer."""
    return tuple([a * b % p for b in v])


def less(v, w, a, p):
    """Return the row `v` less `a` times the row `w`."""
    return tuple([(b - a * c) % p for b, c in zip(v, w)])


def dot(v, w, p):
    """Return the product of two rows."""
    return sum([a * b for a, b in zip(v, w)]) % p


def combine(rows, weights, width, p):
    """Return the sum of the rows times the weights, integers."""
    total = [0] * width
    for row, weight in zip(rows, weights):
        if weight % p != 0:
            total = [(a + weight * b) % p for a, b in zip(total, row)]
    return tuple(total)


def basis_row(n, k):
    """Return the row of the length `n` with 1 at the place `k`; zeros if `k` is no place."""
    return tuple([1 if i == k else 0 for i in range(n)])


def columns(rows, width):
    """Return the list of the columns of a table of rows."""
    return [tuple([row[k] for row in rows]) for k in range(width)]


def first_place(row):
    """Return the first place that is not 0; the length of the row if there is none."""
    for k, a in enumerate(row):
        if a != 0:
            return k
    return len(row)


def cleared(table, v, p):
    """Return `v` less rows of a dict from pivots to reduced rows, with 0 at all pivots."""
    for pivot in table:
        if v[pivot] != 0:
            v = less(v, table[pivot], v[pivot], p)
    return v


def reduced(rows, width, p):
    """Return the pair of the reduced table of the space that rows span, and its pivots."""
    table = {}
    for row in rows:
        left = cleared(table, row, p)
        place = first_place(left)
        if place < width:
            new = scaled(left, inverse(left[place], p), p)
            for pivot in list(table):
                table[pivot] = less(table[pivot], new, table[pivot][place], p)
            table[place] = new
    pivots = tuple(sorted(table))
    return tuple([table[pivot] for pivot in pivots]), pivots


def span(rows, width, p):
    """Return the space that rows span."""
    return reduced(rows, width, p)[0]


def null_row(table, pivots, free, width, p):
    """Return the row with 1 at one free place, 0 at the others, and products 0 with the table."""
    out = [0] * width
    out[free] = 1
    for row, pivot in zip(table, pivots):
        out[pivot] = -row[free] % p
    return tuple(out)


def kernel(rows, width, p):
    """Return the space of all rows whose product with each of the rows is 0."""
    table, pivots = reduced(rows, width, p)
    free = [k for k in range(width) if k not in pivots]
    return span([null_row(table, pivots, k, width, p) for k in free], width, p)


def relations(rows, width, p):
    """Return the space of all rows of multiples for which the sum of the multiples is 0."""
    return kernel(columns(rows, width), len(rows), p)


def solve(rows, width, right, p):
    """Return the row with the products `right`, and 0 at the free places, or None."""
    wider = [(*row, b % p) for row, b in zip(rows, right)]
    table, pivots = reduced(wider, width + 1, p)
    if width in pivots:
        return None
    out = [0] * width
    for row, pivot in zip(table, pivots):
        out[pivot] = row[width]
    return tuple(out)


def coordinates(rows, v, p):
    """Return the multiples of independent rows whose sum is `v`, or None."""
    return solve(columns(rows, len(v)), len(rows), v, p)


def rest(space, v, p):
    """Return `v` less a row of the space, with 0 at all pivots."""
    for row in space:
        v = less(v, row, v[first_place(row)], p)
    return v


def space_holds(space, v, p):
    """Return True if the row `v` is in the space."""
    return first_place(rest(space, v, p)) == len(v)


def is_reduced(value, p, width):
    """Return True if the value is the reduced table of a space, for every value."""
    # A reduced table has at most as many rows as places, so a longer value is not looked through.
    if not isinstance(value, tuple) or len(value) > width:
        return False
    return all([is_row(row, p, width) for row in value]) and span(value, width, p) == value


def pivots_of(space):
    """Return the list of the pivots of a reduced table."""
    return [first_place(row) for row in space]


def free_places(space, width):
    """Return the list of the places that are no pivots of a reduced table."""
    pivots = pivots_of(space)
    return [k for k in range(width) if k not in pivots]


def at_places(v, places):
    """Return the items of a row at some places."""
    return tuple([v[k] for k in places])


def class_of(space, v, p):
    """Return the items, at the free places, of `v` less the row of the space that clears its pivots."""
    return at_places(rest(space, v, p), free_places(space, len(v)))


def spread(items, space, width):
    """Return the row with these items at the free places of a space, and 0 at the pivots."""
    out = [0] * width
    for place, a in zip(free_places(space, width), items):
        out[place] = a
    return tuple(out)


def sum_of(a, b, width, p):
    """Return the space of all sums of a row of the one space and a row of the other."""
    return span((*a, *b), width, p)


def common_part(a, b, width, p):
    """Return the space of the rows that are in both spaces."""
    # A space is the kernel of its kernel, so the conditions of both are put together.
    return kernel((*kernel(a, width, p), *kernel(b, width, p)), width, p)


def digits(number, count, p):
    """Return the row of the `count` last digits of a number, written in the base `p`."""
    out = []
    for _ in range(count):
        out.append(number % p)
        number = number // p
    return tuple(out[::-1])


def members(space, width, p):
    """Yield all rows of the space, ascending."""
    # The items at the pivots are the weights: rows ascend exactly as their weights do.
    for number in range(power(p, len(space))):
        yield combine(space, digits(number, len(space), p), width, p)
