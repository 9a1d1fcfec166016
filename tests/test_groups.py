"""Tables of groups and group algebras: algebraparts.groups."""

import unittest
from itertools import permutations, product

from samples import (
    ODD_VALUES, PRIMES, WRONG_PRIMES, check_malformed, check_refused, kinds_of, some_pairs, unchanged,
)

from algebraparts.groups import cyclic_table, dihedral_table, direct_table, group_algebra, is_group

LARGEST = {2: 12, 3: 7, 5: 5, 7: 4}
NO_GROUPS = tuple(value for value in ODD_VALUES if value != [(0,)])


def permutation_table(n):
    """The table of all permutations of n points; the identity is the first one."""
    members = sorted(permutations(range(n)))
    return [[members.index(tuple(x[k] for k in y)) for y in members] for x in members]


def quaternion_table():
    """The table of the group of the quaternions 1, i, j, k and their negatives, as 0 to 7."""
    signs = {(1, 1): (4, 0), (1, 2): (0, 3), (1, 3): (4, 2), (2, 1): (4, 3), (2, 2): (4, 0), (2, 3): (0, 1),
             (3, 1): (0, 2), (3, 2): (4, 1), (3, 3): (4, 0)}
    for k in range(4):
        signs[0, k] = signs[k, 0] = (0, k)
    table = []
    for x in range(8):
        row = []
        for y in range(8):
            sign, unit = signs[x % 4, y % 4]
            row.append((sign + 4 * (x // 4) + 4 * (y // 4)) % 8 + unit)
        table.append(row)
    return table


def plain_is_group(table):
    """The answer for a square table of indexes, by the definition."""
    points = range(len(table))
    return (all(table[0][x] == x == table[x][0] for x in points)
            and all(table[table[x][y]][z] == table[x][table[y][z]] for x in points for y in points for z in points)
            and all(any(table[x][y] == 0 == table[y][x] for y in points) for x in points))


class TablesTest(unittest.TestCase):

    def check_form(self, table, order):
        self.assertEqual(kinds_of(table)[0], "tuple")
        self.assertEqual([kinds_of(row)[0] for row in table], ["tuple"] * order)
        self.assertEqual([len(row) for row in table], [order] * order)

    def test_cyclic(self):
        for n in range(1, 14):
            table = unchanged(self, cyclic_table, n)
            self.check_form(table, n)
            for i in range(n):
                for j in range(n):
                    self.assertEqual(table[i][j], (i + j) % n)
        self.assertEqual(cyclic_table(1), ((0,),))
        self.assertEqual(cyclic_table(2), ((0, 1), (1, 0)))

    def test_dihedral(self):
        for n in range(1, 9):
            table = unchanged(self, dihedral_table, n)
            self.check_form(table, 2 * n)
            for i in range(n):
                for j in range(n):
                    self.assertEqual(table[i][j], (i + j) % n)
                    self.assertEqual(table[i][n + j], n + (i + j) % n)
                self.assertEqual(table[n][i], n + (n - i) % n)
                self.assertEqual(table[n][n + i], (n - i) % n)
            self.assertTrue(plain_is_group(table))
        self.assertEqual(dihedral_table(1), ((0, 1), (1, 0)))
        self.assertEqual(dihedral_table(2), ((0, 1, 2, 3), (1, 0, 3, 2), (2, 3, 0, 1), (3, 2, 1, 0)))
        self.assertEqual(dihedral_table(3)[1], (1, 2, 0, 4, 5, 3))
        self.assertEqual(dihedral_table(3)[4], (4, 3, 5, 1, 0, 2))

    def test_direct(self):
        tables = (cyclic_table(1), cyclic_table(2), cyclic_table(3), dihedral_table(3), quaternion_table())
        for one in tables:
            for two in tables:
                k, m = len(one), len(two)
                table = unchanged(self, direct_table, one, two)
                self.check_form(table, k * m)
                for i, j in product(range(k), range(m)):
                    for a, b in product(range(k), range(m)):
                        self.assertEqual(table[i * m + j][a * m + b], one[i][a] * m + two[j][b])
        self.assertEqual(direct_table([[0, 1], [1, 0]], ((0,),)), ((0, 1), (1, 0)))


class IsGroupTest(unittest.TestCase):

    def groups(self):
        for n in range(1, 9):
            yield cyclic_table(n)
            yield dihedral_table(n)
        yield direct_table(cyclic_table(2), dihedral_table(3))
        yield direct_table(cyclic_table(2), direct_table(cyclic_table(2), cyclic_table(2)))
        yield permutation_table(3)
        yield permutation_table(4)
        yield quaternion_table()

    def test_groups(self):
        for table in self.groups():
            self.assertIs(unchanged(self, is_group, table), True)
            self.assertIs(is_group([list(row) for row in table]), True)
            self.assertIs(is_group(tuple(list(row) for row in table)), True)
            self.assertIs(is_group([tuple(row) for row in table]), True)

    def test_all_tables_of_three_elements(self):
        found = 0
        for items in product(range(3), repeat=9):
            table = (items[:3], items[3:6], items[6:])
            self.assertIs(is_group(table), plain_is_group(table))
            found += is_group(table)
        self.assertEqual(found, 1)

    def test_all_tables_of_four_elements_with_the_unit(self):
        found = 0
        for items in product(range(4), repeat=9):
            table = ((0, 1, 2, 3), (1,) + items[:3], (2,) + items[3:6], (3,) + items[6:])
            found += is_group(table)
            if is_group(table):
                self.assertTrue(plain_is_group(table))
        self.assertEqual(found, 4)

    def test_one_number_changed(self):
        for table in self.groups():
            n = len(table)
            if n <= 8:
                for i in range(n):
                    for j in range(n):
                        for a in range(-1, n + 1):
                            if a != table[i][j]:
                                rows = [list(row) for row in table]
                                rows[i][j] = a
                                self.assertIs(is_group(rows), False)

    def test_another_unit(self):
        self.assertIs(is_group(((1, 0), (0, 1))), False)
        for n in range(2, 6):
            self.assertIs(is_group([[(i + j - 1) % n for j in range(n)] for i in range(n)]), False)
        # 0 is a unit from one side only.
        self.assertIs(is_group(((0, 1), (0, 1))), False)
        self.assertIs(is_group(((0, 0), (1, 1))), False)

    def test_not_associative(self):
        # A table with the unit 0 in which each row and column has each number once.
        table = ((0, 1, 2, 3, 4), (1, 0, 3, 4, 2), (2, 4, 0, 1, 3), (3, 2, 4, 0, 1), (4, 3, 1, 2, 0))
        for row in table + tuple(zip(*table)):
            self.assertEqual(sorted(row), [0, 1, 2, 3, 4])
        self.assertIs(plain_is_group(table), False)
        self.assertIs(is_group(table), False)
        # The same beside a group, on either side: elements that do associate come first or last.
        self.assertIs(is_group(direct_table(table, cyclic_table(3))), False)
        self.assertIs(is_group(direct_table(cyclic_table(3), table)), False)

    def test_without_inverses(self):
        self.assertIs(is_group(((0, 1), (1, 1))), False)
        # All numbers modulo 3 with their products, with 1 and 0 exchanged; and the least of two numbers.
        self.assertIs(is_group(((0, 1, 2), (1, 1, 1), (2, 1, 0))), False)
        self.assertIs(is_group([[max(i, j) for j in range(4)] for i in range(4)]), False)

    def test_every_value(self):
        for value in NO_GROUPS + (
            (), [], ((),), [[]], ((True,),), ((False,),), [[False, True], [True, False]], ((0, True), (True, 0)),
            ((0, 1), (1, False)), ((0, 1), (1,)), ((0, 1), (1, 0), (0, 1)), ((0, 1),), ((0,), (1,)), ((0, 1, 2), (1, 2, 0)),
            ((0, 1), (1, 0, 0)), ((0, 1), None), ((0, 1), 3), ((0, 1), "10"), (("0", "1"), ("1", "0")), ("01", "10"),
            ((0, 1), (1, 2)), ((0, 1), (1, -2)), ((0, -1), (-1, 0)), ((0, 1), (1, None)), ((0, 1), (1, (0,))), ((1,),),
            ((-1,),), {0: (0,)}, ({0: 0},), [[[0]]], 0, None,
        ):
            self.assertIs(is_group(value), False, value)
        self.assertIs(is_group(((0,),)), True)
        self.assertIs(is_group([[0]]), True)

    def test_large_tables_end(self):
        self.assertIs(is_group(cyclic_table(300)), True)
        rows = [list(row) for row in cyclic_table(300)]
        rows[299][299] = 0
        self.assertIs(is_group(rows), False)
        rows[299][299] = 298
        rows[299][298], rows[299][297] = rows[299][297], rows[299][298]
        self.assertIs(is_group(rows), False)


class GroupAlgebraTest(unittest.TestCase):

    def test_products(self):
        for p in PRIMES:
            for table in [cyclic_table(n) for n in range(1, LARGEST[p] + 1)] + [
                    dihedral_table(n) for n in range(1, LARGEST[p] // 2 + 1)]:
                algebra = unchanged(self, group_algebra, p, table)
                n = len(table)
                self.assertEqual((algebra.p, algebra.n, algebra.one), (p, n, (1,) + (0,) * (n - 1)))
                for x, y in some_pairs(algebra, most=20):
                    out = [0] * n
                    for i in range(n):
                        for j in range(n):
                            out[table[i][j]] += x[i] * y[j]
                    self.assertEqual(algebra.multiply(x, y), tuple(a % p for a in out))
                self.assertTrue(group_algebra(p, [list(row) for row in table]) == algebra)

    def test_the_order_of_a_product(self):
        algebra = group_algebra(2, dihedral_table(3))
        self.assertEqual(algebra.multiply(algebra.basis(1), algebra.basis(3)), algebra.basis(4))
        self.assertEqual(algebra.multiply(algebra.basis(3), algebra.basis(1)), algebra.basis(5))

    def test_malformed(self):
        for p in WRONG_PRIMES:
            for table in (cyclic_table(2), cyclic_table(40), None, ((1,),)):
                check_malformed(self, group_algebra, p, table)
        for table in NO_GROUPS + (((True,),), ((0, 1), (1, 1)), ((1, 0), (0, 1)), ((0, 1), (1,)), [[0, 1], [1, 0.0]]):
            for p in PRIMES:
                check_malformed(self, group_algebra, p, table)

    def test_malformed_is_ahead_of_large(self):
        rows = [list(row) for row in cyclic_table(20)]
        rows[19][19] = 0
        for p in PRIMES:
            check_malformed(self, group_algebra, p, rows)
            check_malformed(self, group_algebra, p, rows[:-1])
        check_malformed(self, group_algebra, 4, cyclic_table(20))

    def test_large(self):
        for p in PRIMES:
            self.assertEqual(group_algebra(p, cyclic_table(LARGEST[p])).n, LARGEST[p])
            for n in (LARGEST[p] + 1, LARGEST[p] + 2, 40, 100):
                check_refused(self, "large", group_algebra, p, cyclic_table(n))
        check_refused(self, "large", group_algebra, 2, cyclic_table(700))


if __name__ == "__main__":
    unittest.main()
