"""Values and helpers that several tests use."""

from itertools import product
from random import Random

from algebraparts.algebra import Algebra
from algebraparts.errors import Malformed, NoText, Refused

PRIMES = (2, 3, 5, 7)

# Values of all kinds that a function "for every value" may be passed.
ODD_VALUES = (
    None, True, False, 0, 1, 2, -1, 10 ** 30, "", "0", "abc", "2 1: 1", [], [[]], [0], [(0,)], [None],
    (), ((),), (None,), ("0",), ("a", "b"), [[], [[]]], ((0,), "x"), Malformed("x"), Refused("large"), NoText(3),
    Algebra(2, (((1,),),)), [Algebra(2, (((1,),),))], (Algebra(3, (((1,),),)),),
)

WRONG_PRIMES = (True, False, None, 0, 1, 4, 6, 8, 9, 11, -2, -3, 10 ** 40, "2", "", (2,), [2], [], (), Refused("x"))


def all_rows(width, p):
    """All rows of a width, ascending."""
    return list(product(range(p), repeat=width))


def plain_sum(rows, weights, width, p):
    """The sum of multiples of rows, item by item."""
    return tuple(sum(a * row[k] for a, row in zip(weights, rows)) % p for k in range(width))


def spanned(rows, width, p):
    """The set of all sums of multiples of rows."""
    found = {(0,) * width}
    for row in rows:
        if tuple(row) not in found:
            found = {plain_sum((v, row), (1, a), width, p) for v in found for a in range(p)}
    return found


def draws(seed):
    """Pairs of a prime and a width, each with several lists of rows; the same at each run."""
    random = Random(seed)
    for p, widths in ((2, (0, 1, 2, 3, 4)), (3, (0, 1, 2, 3)), (5, (0, 1, 2)), (7, (0, 1, 2))):
        for width in widths:
            for many in range(0, 6):
                for _ in range(4):
                    yield p, width, [tuple(random.randrange(p) for _ in range(width)) for _ in range(many)]
            zeros = (0,) * width
            ones = (1,) * width
            yield p, width, [zeros]
            yield p, width, [zeros, zeros]
            yield p, width, [ones, zeros, ones]
            yield p, width, [ones, tuple((p - 1) * a for a in ones), ones]


def pieces_of(value):
    """All that a value consists of, with the kinds of the parts and the fields of objects."""
    if isinstance(value, (list, tuple)):
        return (value.__class__.__name__, [pieces_of(item) for item in value])
    if isinstance(value, dict):
        return ("dict", [(pieces_of(key), pieces_of(item)) for key, item in value.items()])
    if hasattr(value, "__dict__"):
        return (value.__class__.__name__, pieces_of(vars(value)), pieces_of(getattr(value, "args", ())))
    return (value.__class__.__name__, value)


def unchanged(test, function, *arguments):
    """Call twice; check that results agree and that no argument was changed."""
    before = pieces_of(arguments)
    one = function(*arguments)
    two = function(*arguments)
    test.assertEqual(one, two)
    test.assertEqual(before, pieces_of(arguments))
    return one


def kinds_of(value):
    """The value with the kind of each part, so that True is unlike 1 and lists unlike tuples."""
    if isinstance(value, (list, tuple)):
        return (value.__class__.__name__, [kinds_of(item) for item in value])
    return (value.__class__.__name__, value)


def check_refused(test, reason, function, *arguments):
    """Check that a call raises Refused with this reason."""
    with test.assertRaises(Refused) as caught:
        function(*arguments)
    test.assertEqual(caught.exception.reason, reason)


def check_malformed(test, function, *arguments):
    """Check that a call raises Malformed."""
    with test.assertRaises(Malformed):
        function(*arguments)


def check_no_text(test, function, *arguments):
    """Check that a call raises NoText(0)."""
    with test.assertRaises(NoText) as caught:
        function(*arguments)
    test.assertEqual(caught.exception.at, 0)


def table_product(algebra, x, y):
    """The product by the words of point 2.1."""
    out = [0] * algebra.n
    for i, a in enumerate(x):
        for j, b in enumerate(y):
            for k, c in enumerate(algebra.table[i][j]):
                out[k] += a * b * c
    return tuple(a % algebra.p for a in out)


def some_pairs(algebra, seed=1, most=60):
    """All pairs of elements, or some drawn ones if there are many."""
    elements = all_rows(algebra.n, algebra.p)
    if len(elements) ** 2 <= most:
        return [(x, y) for x in elements for y in elements]
    random = Random(seed)
    return [(random.choice(elements), random.choice(elements)) for _ in range(most)]


def drawn_basis(algebra, seed):
    """A list of independent elements."""
    random = Random(seed)
    rows = []
    while len(rows) < algebra.n:
        row = tuple(random.randrange(algebra.p) for _ in range(algebra.n))
        if row not in spanned(rows, algebra.n, algebra.p):
            rows.append(row)
    return rows


def fields_table(n):
    """The table of the product of n copies of the numbers modulo p."""
    return tuple(
        tuple(tuple(int(i == j == k) for k in range(n)) for j in range(n)) for i in range(n)
    )
