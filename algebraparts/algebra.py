"""Finite-dimensional algebras over the numbers modulo 2, 3, 5 and 7, by their tables."""

from algebraparts.errors import Fault, Malformed, NoText, Refused
from algebraparts.linear import add, basis_row, combine, digits, is_row, less, scaled, solve
from algebraparts.whole import PRIMES, is_prime_here, power

MOST = 4096
# 2 to the power 12 is 4096, so no algebra here has a larger dimension.
LARGEST_DIMENSION = 12
DIGITS = "0123456"


def check_prime(p):
    """Raise Malformed if `p` is none of the integers 2, 3, 5, 7, for every value."""
    if not is_prime_here(p):
        raise Malformed("p is none of 2, 3, 5, 7")


def check_size(p, n):
    """Raise Refused("large") if there are more than 4096 rows of the length `n`."""
    many = 1
    # It stops early, as `n` may be far too large for the number to be written.
    for _ in range(n):
        many = many * p
        if many > MOST:
            raise Refused("large")


def is_table(value, p):
    """Return True if the value has the form of a multiplication table, for every value."""
    if not isinstance(value, (list, tuple)) or len(value) == 0:
        return False
    return all([is_table_row(row, p, len(value)) for row in value])


def is_table_row(value, p, n):
    """Return True if the value is a list or tuple of `n` rows of the length `n`."""
    if not isinstance(value, (list, tuple)) or len(value) != n:
        return False
    return all([is_row(x, p, n) for x in value])


def is_associative(table, p):
    """Return True if the products of all triples of basis elements agree."""
    n = len(table)
    for k in range(n):
        times_k = [row[k] for row in table]
        for i in range(n):
            for j in range(n):
                if combine(times_k, table[i][j], n, p) != combine(table[i], table[j][k], n, p):
                    return False
    return True


def unit_of(table, p):
    """Return the unit element, or None."""
    n = len(table)
    rows = []
    right = []
    for i in range(n):
        for k, a in enumerate(basis_row(n, i)):
            rows.append(tuple([table[j][i][k] for j in range(n)]))
            rows.append(tuple([table[i][j][k] for j in range(n)]))
            right.extend([a, a])
    return solve(rows, n, right, p)


class Algebra:
    """An associative algebra with a unit; its elements are rows of the length `n`."""

    def __init__(self, p, table):
        check_prime(p)
        if not is_table(table, p):
            raise Malformed("this is no multiplication table")
        check_size(p, len(table))
        if not is_associative(table, p):
            raise Refused("associative")
        unit = unit_of(table, p)
        if unit is None:
            raise Refused("unit")
        self.p = p
        self.n = len(table)
        self.table = tuple([tuple(row) for row in table])
        self.one = unit

    def __eq__(self, other):
        return isinstance(other, Algebra) and self.p == other.p and self.table == other.table

    def __str__(self):
        return " ".join([f"{self.p} {self.n}:", *[written(x) for row in self.table for x in row]])

    def is_element(self, value):
        """Return True if the value is an element, for every value."""
        return is_row(value, self.p, self.n)

    def zero(self):
        """Return the element 0."""
        return (0,) * self.n

    def basis(self, i):
        """Return the basis element with the index `i`."""
        return basis_row(self.n, i)

    def all_elements(self):
        """Yield all elements, ascending as tuples."""
        for number in range(power(self.p, self.n)):
            yield digits(number, self.n, self.p)

    def add(self, x, y):
        """Return the sum of two elements."""
        return add(x, y, self.p)

    def subtract(self, x, y):
        """Return the difference of two elements."""
        return less(x, y, 1, self.p)

    def scaled(self, c, x):
        """Return the multiple of an element by an integer."""
        return scaled(x, c, self.p)

    def multiply(self, x, y):
        """Return the product of two elements."""
        places = [i for i in range(self.n) if x[i] != 0]
        parts = [combine(self.table[i], y, self.n, self.p) for i in places]
        return combine(parts, [x[i] for i in places], self.n, self.p)

    def power(self, x, k):
        """Return the element to the power `k`, from 0 on."""
        out = self.one
        for place in reversed(range(k.bit_length())):
            out = self.multiply(out, out)
            if (k >> place) % 2 == 1:
                out = self.multiply(out, x)
        return out

    def left(self, x):
        """Return the tuple of the products of `x` and each basis element."""
        return tuple([combine([row[i] for row in self.table], x, self.n, self.p) for i in range(self.n)])

    def right(self, x):
        """Return the tuple of the products of each basis element and `x`."""
        return tuple([combine(row, x, self.n, self.p) for row in self.table])


def written(x):
    """Return the digits of an element."""
    return "".join([str(a) for a in x])


def read_element(word):
    """Return the row of the digits of a word; it has an item -1 for any other character."""
    return tuple([DIGITS.find(letter) for letter in word])


def read_table(p, n, words):
    """Return the algebra whose table has these words."""
    if len(words) != n * n:
        raise NoText(0)
    rows = [read_element(word) for word in words]
    try:
        return Algebra(p, [rows[i * n:i * n + n] for i in range(n)])
    except Fault:
        raise NoText(0) from None


def read_algebra(text):
    """Return the algebra with this text; raise NoText(0) if there is none, for every value."""
    if not isinstance(text, str):
        raise NoText(0)
    for p in PRIMES:
        for n in range(1, LARGEST_DIMENSION + 1):
            head = f"{p} {n}: "
            if text.startswith(head):
                return read_table(p, n, text[len(head):].split(" "))
    raise NoText(0)
