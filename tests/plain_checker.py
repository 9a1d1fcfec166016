"""Papers by the words of points 8.2 to 8.4, with whole sets of elements in the place of reduced tables."""

from itertools import product

from samples import kinds_of, plain_sum, spanned, table_product

from algebraparts import linear


def plain_times(algebra):
    """The product of two elements, each pair computed once."""
    known = {}

    def times(x, y):
        if (x, y) not in known:
            known[x, y] = table_product(algebra, x, y)
        return known[x, y]
    return times


def total(algebra, rows):
    return plain_sum(rows, [1] * len(rows), algebra.n, algebra.p)


def minus(algebra, x, y):
    return plain_sum([x, y], [1, -1], algebra.n, algebra.p)


def is_element(algebra, value):
    """True if the value is a tuple of n integers from 0 to p - 1."""
    form = kinds_of(value)
    return form[0] == "tuple" and len(value) == algebra.n and all(
        kind == ("int", item) and 0 <= item < algebra.p for kind, item in zip(form[1], value))


def is_reduced_table(algebra, value):
    """True if the value is a tuple of elements that is a reduced table, by the words of point 1.2."""
    if value.__class__ is not tuple or not all(is_element(algebra, row) for row in value):
        return False
    if not all(any(row) for row in value):
        return False
    places = [next(k for k, a in enumerate(row) if a) for row in value]
    if any(row[place] != 1 for row, place in zip(value, places)) or places != sorted(set(places)):
        return False
    return all(other[place] == 0 for row, place in zip(value, places) for other in value if other is not row)


def monic_products(p, d):
    """The products of two monic polynomials of degrees from 1 on, of the degree d together."""
    found = set()
    for low in range(1, d // 2 + 1):
        for one in product(range(p), repeat=low):
            for two in product(range(p), repeat=d - low):
                out = [0] * (d + 1)
                for i, a in enumerate((*one, 1)):
                    for j, b in enumerate((*two, 1)):
                        out[i + j] += a * b
                found.add(tuple(a % p for a in out))
    return found


IRREDUCIBLE = {}


def is_field_polynomial(algebra, f):
    """True if the value is a tuple of the coefficients of a monic polynomial without a divisor."""
    p = algebra.p
    if f.__class__ is not tuple or len(f) < 2 or len(f) > algebra.n + 1:
        # No paper has room for a degree above n.
        return False
    if not all(a.__class__ is int and 0 <= a < p for a in f) or f[-1] != 1:
        return False
    d = len(f) - 1
    if (p, d) not in IRREDUCIBLE:
        IRREDUCIBLE[p, d] = monic_products(p, d)
    return f not in IRREDUCIBLE[p, d]


def value_with(algebra, times, f, c, e):
    """The value of a polynomial at c, with e in the place of 1."""
    parts = [algebra.scaled(f[0], e)]
    high = c
    for a in f[1:]:
        parts.append(algebra.scaled(a, high))
        high = times(high, c)
    return total(algebra, parts)


def space_faults(algebra, times, space, k):
    """The faults of the space and the exponent of a paper of the radical."""
    faults = []
    if not is_reduced_table(algebra, space):
        return ["space"]
    inside = spanned(space, algebra.n, algebra.p)
    basis = [algebra.basis(i) for i in range(algebra.n)]
    if not all(times(b, u) in inside for b in basis for u in space):
        faults.append("left")
    if not all(times(u, b) in inside for b in basis for u in space):
        faults.append("right")
    if k.__class__ is not int or k < 1:
        return faults + ["k"]
    if not vanishes(algebra, times, space, k):
        faults.append("nilpotent")
    if space == () and k != 1:
        faults.append("nilpotent")
    return faults


def vanishes(algebra, times, space, k):
    """True if all products of k of some elements are 0."""
    found = set(space)
    for _ in range(min(k, 40) - 1):
        found = {times(x, u) for x in found for u in space} - {algebra.zero()}
    return not found


def is_block(algebra, block):
    if block.__class__ is not tuple or len(block) != 3 or block[0].__class__ is not tuple or not block[0]:
        return False
    rows = block[0]
    if any(row.__class__ is not tuple or len(row) != len(rows) for row in rows):
        return False
    return all(is_element(algebra, x) for row in rows for x in row) and is_element(algebra, block[1])


def radical_faults(algebra, paper):
    """The list of the sentences of point 8.2 that a value breaks."""
    times = plain_times(algebra)
    if paper.__class__ is not tuple or len(paper) != 4 or kinds_of(paper[0]) != ("str", "radical"):
        return ["form"]
    _, space, k, blocks = paper
    faults = space_faults(algebra, times, space, k)
    if "space" in faults:
        return faults
    if blocks.__class__ is not tuple or not all(is_block(algebra, block) for block in blocks):
        return faults + ["blocks"]
    if not all(is_field_polynomial(algebra, f) for _, _, f in blocks):
        faults.append("f")
        if not all(f.__class__ is tuple and len(f) <= algebra.n + 1 and is_element_items(algebra, f)
                   for _, _, f in blocks):
            return faults
    inside = spanned(space, algebra.n, algebra.p)

    def same(x, y):
        return minus(algebra, x, y) in inside
    units = {(at, i, j): x for at, block in enumerate(blocks) for i, row in enumerate(block[0]) for j,
             x in enumerate(row)}
    for (a, i, j), x in units.items():
        for (b, k, m), y in units.items():
            wanted = units[a, i, m] if (a, j) == (b, k) else algebra.zero()
            if not same(times(x, y), wanted):
                faults.append("products" if a == b else "products of two blocks")
    ones = [total(algebra, [row[i] for i, row in enumerate(block[0])]) for block in blocks]
    if not same(total(algebra, ones), algebra.one):
        faults.append("sum")
    rows = list(space)
    for (table, c, f), e in zip(blocks, ones):
        if not all(same(times(c, x), times(x, c)) for row in table for x in row):
            faults.append("commutes")
        if not same(times(c, e), c) or not same(times(e, c), c):
            faults.append("c e")
        if not same(value_with(algebra, times, f, c, e), algebra.zero()):
            faults.append("value")
        for row in table:
            for x in row:
                for _ in range(len(f) - 1):
                    rows.append(x)
                    x = times(c, x)
    if sum(len(table) ** 2 * (len(f) - 1) for table, _, f in blocks) + len(space) != algebra.n:
        faults.append("dimension")
    if len(rows) > algebra.n or len(spanned(rows, algebra.n, algebra.p)) != algebra.p ** len(rows):
        faults.append("independent")
    return faults


def is_element_items(algebra, f):
    return len(f) > 0 and all(a.__class__ is int and 0 <= a < algebra.p for a in f)


def primitive_faults(algebra, paper):
    """The list of the sentences of point 8.3 that a value breaks."""
    times = plain_times(algebra)
    if paper.__class__ is not tuple or len(paper) != 2 or kinds_of(paper[0]) != ("str", "primitive"):
        return ["form"]
    if paper[1].__class__ is not tuple:
        return ["form"]
    for part in paper[1]:
        if part.__class__ is not tuple or len(part) != 4:
            return ["part"]
        if not is_element(algebra, part[0]) or not is_reduced_table(algebra, part[1]) or not is_element(algebra,
                                                                                                        part[2]):
            return ["part"]
        if part[3].__class__ is not tuple or len(part[3]) > algebra.n + 1 or not is_element_items(algebra, part[3]):
            return ["f"]
    faults = []
    parts = paper[1]
    for i, (e, _, _, _) in enumerate(parts):
        if e == algebra.zero():
            faults.append("zero")
        if times(e, e) != e:
            faults.append("idempotent")
        if any(any(times(e, part[0])) for j, part in enumerate(parts) if j != i):
            faults.append("orthogonal")
    if total(algebra, [part[0] for part in parts]) != algebra.one:
        faults.append("sum")
    for part in parts:
        faults.extend(part_faults(algebra, times, *part))
    return faults


def part_faults(algebra, times, e, rest, c, f):
    """The list of the sentences of point 8.3 about one part that it breaks."""
    faults = [] if is_field_polynomial(algebra, f) else ["f"]
    corner = spanned([times(times(e, algebra.basis(i)), e) for i in range(algebra.n)], algebra.n, algebra.p)
    inside = spanned(rest, algebra.n, algebra.p)
    if not set(rest) <= corner:
        faults.append("rest")
    if not all(times(u, x) in inside for u in rest for x in corner):
        faults.append("right")
    if not all(times(x, u) in inside for u in rest for x in corner):
        faults.append("left")
    if not vanishes(algebra, times, rest, algebra.n + 1):
        faults.append("nilpotent")
    if c not in corner:
        faults.append("c")
    if value_with(algebra, times, f, c, e) not in inside:
        faults.append("value")
    if len(corner) != algebra.p ** (len(f) - 1 + len(rest)):
        faults.append("dimension")
    return faults


def map_faults(a, b, paper):
    """The list of the sentences of point 8.4 that a value breaks."""
    if a.p != b.p:
        return ["p"]
    if paper.__class__ is not tuple or len(paper) != 2 or kinds_of(paper[0]) != ("str", "map"):
        return ["form"]
    images = paper[1]
    if images.__class__ is not tuple or len(images) != a.n or not all(is_element(b, x) for x in images):
        return ["form"]
    faults = []

    def image(x):
        return plain_sum(images, x, b.n, b.p)
    times = plain_times(b)
    if any(image(a.table[i][j]) != times(images[i], images[j]) for i in range(a.n) for j in range(a.n)):
        faults.append("products")
    if image(a.one) != b.one:
        faults.append("one")
    many = len(linear.span(images, b.n, b.p))
    if many != a.n:
        faults.append("one-to-one")
    if many != b.n:
        faults.append("onto")
    return faults


def replaced(value, path, new):
    """A nested tuple with the item at a path of indexes replaced."""
    if not path:
        return new
    items = list(value)
    items[path[0]] = replaced(items[path[0]], path[1:], new)
    return tuple(items)


def paths_of(value):
    """The paths to all parts of a nested tuple, the whole one first."""
    found = [()]
    if isinstance(value, tuple):
        for k, item in enumerate(value):
            found.extend((k, *path) for path in paths_of(item))
    return found


def item_at(value, path):
    for k in path:
        value = value[k]
    return value


def drawn_change(random, algebra, paper):
    """The paper with a few of its parts replaced by other ones of the same form."""
    for _ in range(random.choice((1, 1, 2))):
        path = random.choice([path for path in paths_of(paper) if path])
        part = item_at(paper, path)
        like = [item_at(paper, other) for other in paths_of(paper) if len(other) == len(path)]
        if part.__class__ is int:
            new = random.randrange(algebra.p + 1)
        elif random.random() < 0.5 or not part:
            new = random.choice(like)
        elif part.__class__ is tuple:
            order = list(part)
            random.shuffle(order)
            new = random.choice((tuple(order), part[:-1], part + part[-1:]))
        else:
            new = part
        paper = replaced(paper, path, new)
    return paper
