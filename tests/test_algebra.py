"""Algebras by their tables: algebraparts.algebra."""

import copy
import unittest

from samples import (
    ODD_VALUES, PRIMES, WRONG_PRIMES, all_rows, check_malformed, check_no_text, check_refused, drawn_basis,
    fields_table, kinds_of, some_pairs, table_product, unchanged,
)

from algebraparts.algebra import Algebra, read_algebra
from algebraparts.build import changed, direct_product, matrix_algebra, polynomial_quotient, triangular_algebra
from algebraparts.errors import Fault, Refused

DUAL = (((1, 0), (0, 1)), ((0, 1), (0, 0)))
LARGEST = {2: 12, 3: 7, 5: 5, 7: 4}

# The rows are x, 1 and x + 1 in some order: the unit is no basis element.
HIDDEN = (((1, 0), (0, 0)), ((0, 0), (0, 1)))


def zero_table(n):
    return tuple(tuple((0,) * n for _ in range(n)) for _ in range(n))


def left_unit_table(n):
    """b_i b_j = b_j: associative, each basis element is a unit from the left alone."""
    return tuple(tuple(tuple(int(j == k) for k in range(n)) for j in range(n)) for _ in range(n))


def right_unit_table(n):
    """b_i b_j = b_i."""
    return tuple(tuple(tuple(int(i == k) for k in range(n)) for _ in range(n)) for i in range(n))


def sample_algebras():
    """Algebras with products that depend on the order, and others, in several bases."""
    for p in PRIMES:
        yield Algebra(p, (((1,),),))
        yield Algebra(p, DUAL)
        yield triangular_algebra(p, 2)
        yield matrix_algebra(p, 2)
        yield changed(triangular_algebra(p, 2), drawn_basis(triangular_algebra(p, 2), p))
        yield changed(matrix_algebra(p, 2), drawn_basis(matrix_algebra(p, 2), p + 1))
    yield triangular_algebra(2, 3)
    yield changed(triangular_algebra(2, 3), drawn_basis(triangular_algebra(2, 3), 8))
    yield direct_product(matrix_algebra(2, 2), polynomial_quotient(2, (1, 1, 1)))


class FieldsTest(unittest.TestCase):

    def test_fields(self):
        for p in PRIMES:
            dual = Algebra(p, DUAL)
            self.assertEqual((dual.p, dual.n, dual.table, dual.one), (p, 2, DUAL, (1, 0)))
            self.assertEqual(kinds_of(dual.table), kinds_of(DUAL))
            self.assertEqual(kinds_of(dual.one), kinds_of((1, 0)))
            smallest = Algebra(p, [[(1,)]])
            self.assertEqual((smallest.p, smallest.n, smallest.table, smallest.one), (p, 1, (((1,),),), (1,)))

    def test_tables_of_lists_and_tuples(self):
        for table in ([list(row) for row in DUAL], [tuple(row) for row in DUAL], tuple(list(row) for row in DUAL),
                      [DUAL[0], list(DUAL[1])]):
            before = copy.deepcopy(table)
            found = Algebra(2, table)
            self.assertEqual(kinds_of(found.table), kinds_of(DUAL))
            self.assertEqual(kinds_of(table), kinds_of(before))
            self.assertTrue(found == Algebra(2, DUAL))

    def test_the_table_is_kept_apart_from_the_argument(self):
        table = [list(row) for row in DUAL]
        found = Algebra(2, table)
        table[0][0] = (0, 0)
        table.append([])
        self.assertEqual(found.table, DUAL)

    def test_equality(self):
        one = Algebra(2, DUAL)
        self.assertIs(one == Algebra(2, DUAL), True)
        self.assertIs(one == Algebra(2, [list(row) for row in DUAL]), True)
        self.assertIs(one == Algebra(3, DUAL), False)
        self.assertIs(one == Algebra(2, fields_table(2)), False)
        self.assertIs(one == Algebra(2, (((1,),),)), False)
        self.assertIs(one != Algebra(2, DUAL), False)
        self.assertIs(one != Algebra(3, DUAL), True)
        for value in ODD_VALUES + (DUAL, (2, DUAL), str(one), [one], (one,)):
            self.assertIs(one == value, False)

    def test_text(self):
        self.assertEqual(str(Algebra(2, DUAL)), "2 2: 10 01 01 00")
        self.assertEqual(str(Algebra(7, [[(1,)]])), "7 1: 1")
        self.assertEqual(str(Algebra(7, [[(6,)]])), "7 1: 6")
        self.assertEqual(str(triangular_algebra(2, 2)), "2 3: 100 010 000 000 000 010 000 000 001")

    def test_the_unit_element(self):
        for algebra in sample_algebras():
            for x in all_rows(algebra.n, algebra.p)[:80]:
                self.assertEqual(table_product(algebra, algebra.one, x), x)
                self.assertEqual(table_product(algebra, x, algebra.one), x)

    def test_a_unit_that_is_no_basis_element(self):
        for p in PRIMES:
            self.assertEqual(Algebra(p, HIDDEN).one, (1, 1))
            self.assertEqual(Algebra(p, (((p - 1,),),)).one, (p - 1,))
            self.assertEqual(matrix_algebra(p, 2).one, (1, 0, 0, 1))


class RefusedTest(unittest.TestCase):

    def test_wrong_primes(self):
        for p in WRONG_PRIMES + ODD_VALUES:
            if p.__class__ is int and p in PRIMES:
                continue
            for table in (DUAL, None, zero_table(2), (), zero_table(13)):
                check_malformed(self, Algebra, p, table)

    def test_wrong_tables(self):
        wrong = [
            (), [], ((),), [[]], (((),),), None, 3, True, "10 01", DUAL[0], (DUAL, DUAL),
            (((1, 0), (0, 1)),), (((1, 0), (0, 1)), ((0, 1),)), (((1, 0), (0, 1)), ((0, 1), (0, 0), (0, 0))),
            (((1, 0), (0, 1)), ((0, 1), (0, 0)), ((0, 0), (0, 0))), (((1, 0), (0, 1)), ()),
            (((1, 0), (0, 1)), ((0, 1), (0,))), (((1, 0), (0, 1)), ((0, 1), (0, 0, 0))),
            (((1, 0), (0, 1)), ((0, 1), [0, 0])), (([1, 0], (0, 1)), ((0, 1), (0, 0))),
            (((True, 0), (0, 1)), ((0, 1), (0, 0))), (((1, 0), (0, 1)), ((0, 1), (0, False))),
            (((1, 0), (0, 1)), ((0, 1), (0, 2))), (((1, 0), (0, -1)), ((0, 1), (0, 0))),
            (((1, 0), (0, 1)), ((0, "1"), (0, 0))), (((1, 0), (0, None)), ((0, 1), (0, 0))),
            (((1, 0), (0, 1)), ((0, 1), None)), (((1, 0), (0, 1)), None), (((1, 0), (0, 1)), "01"),
            (((1, 0), (0, 1)), ((0, 1), 0)), (((1, 0), (0, 1)), ((0, (1,)), (0, 0))), Algebra(2, DUAL),
            [((1, 0), (0, 1)), {0: (0, 1), 1: (0, 0)}],
        ]
        for table in wrong + list(ODD_VALUES):
            check_malformed(self, Algebra, 2, table)

    def test_items_are_below_each_prime(self):
        for p in PRIMES:
            check_malformed(self, Algebra, p, (((p,),),))
            check_malformed(self, Algebra, p, (((-1,),),))
            self.assertEqual(Algebra(p, (((p - 1,),),)).table, (((p - 1,),),))

    def test_malformed_is_ahead_of_large(self):
        table = [list(row) for row in zero_table(14)]
        table[13][13] = (0,) * 13
        check_malformed(self, Algebra, 2, table)
        table[13][13] = [0] * 14
        check_malformed(self, Algebra, 2, table)
        table[13][13] = (0,) * 13 + (True,)
        check_malformed(self, Algebra, 2, table)
        check_malformed(self, Algebra, 4, zero_table(14))

    def test_large_at_the_edge(self):
        for p in PRIMES:
            n = LARGEST[p]
            found = Algebra(p, fields_table(n))
            self.assertEqual((found.n, found.one), (n, (1,) * n))
            check_refused(self, "large", Algebra, p, fields_table(n + 1))
            check_refused(self, "large", Algebra, p, fields_table(n + 20))

    def test_large_is_ahead_of_the_others(self):
        for p in PRIMES:
            check_refused(self, "unit", Algebra, p, zero_table(LARGEST[p]))
            check_refused(self, "large", Algebra, p, zero_table(LARGEST[p] + 1))
            check_refused(self, "large", Algebra, p, self.not_associative(LARGEST[p] + 1))

    def not_associative(self, n):
        """b_0 b_0 = b_1, b_1 b_0 = b_0, all others 0: (b_0 b_0) b_0 is b_0, b_0 (b_0 b_0) is 0."""
        table = [list(row) for row in zero_table(n)]
        table[0][0] = tuple(int(k == 1) for k in range(n))
        table[1][0] = tuple(int(k == 0) for k in range(n))
        return table

    def test_associative(self):
        for p in PRIMES:
            check_refused(self, "associative", Algebra, p, self.not_associative(2))
            check_refused(self, "associative", Algebra, p, self.not_associative(4))

    def test_associative_with_a_unit(self):
        # b_0 is the unit; (b_1 b_1) b_2 = 0, but b_1 (b_1 b_2) = b_1.
        table = (((1, 0, 0), (0, 1, 0), (0, 0, 1)), ((0, 1, 0), (0, 0, 0), (1, 0, 0)),
                 ((0, 0, 1), (0, 0, 0), (0, 0, 0)))
        for p in PRIMES:
            check_refused(self, "associative", Algebra, p, table)

    def test_each_triple_counts(self):
        # In all tables over p = 2 of the dimension 2, and one-sided units too, by the words of point 2.1.
        texts = all_rows(8, 2)
        counts = {}
        for items in texts:
            rows = [items[k:k + 2] for k in range(0, 8, 2)]
            table = (tuple(rows[:2]), tuple(rows[2:]))
            wanted = self.plain_answer(table)
            counts[wanted] = counts.get(wanted, 0) + 1
            try:
                found = Algebra(2, table).one
            except Refused as refused:
                found = refused.reason
            self.assertEqual(found, wanted, table)
        self.assertGreater(counts["associative"], 0)
        self.assertGreater(counts["unit"], 0)
        self.assertEqual(sum(counts[key] for key in ((1, 0), (0, 1), (1, 1))), 256 - counts["associative"]
                         - counts["unit"])

    def plain_answer(self, table):
        def times(x, y):
            return tuple(sum(x[i] * y[j] * table[i][j][k] for i in (0, 1) for j in (0, 1)) % 2 for k in (0, 1))
        elements = all_rows(2, 2)
        for x in elements:
            for y in elements:
                for z in elements:
                    if times(times(x, y), z) != times(x, times(y, z)):
                        return "associative"
        units = [e for e in elements if all(times(e, x) == x == times(x, e) for x in elements)]
        return units[0] if units else "unit"

    def test_unit(self):
        for p in PRIMES:
            check_refused(self, "unit", Algebra, p, zero_table(1))
            check_refused(self, "unit", Algebra, p, zero_table(3))
            check_refused(self, "unit", Algebra, p, left_unit_table(2))
            check_refused(self, "unit", Algebra, p, right_unit_table(2))
            check_refused(self, "unit", Algebra, p, left_unit_table(3))
            check_refused(self, "unit", Algebra, p, right_unit_table(3))


class ProductsTest(unittest.TestCase):

    def test_is_element(self):
        for algebra in sample_algebras():
            for x in all_rows(algebra.n, algebra.p)[:100]:
                self.assertIs(algebra.is_element(x), True)
                self.assertIs(algebra.is_element(list(x)), False)
                self.assertIs(algebra.is_element(x + (0,)), False)
                self.assertIs(algebra.is_element(x[1:]), False)
                self.assertIs(algebra.is_element((algebra.p,) + x[1:]), False)
                self.assertIs(algebra.is_element(x[1:] + (-1,)), False)
                self.assertIs(algebra.is_element((True,) + x[1:]), False)
                self.assertIs(algebra.is_element(("0",) + x[1:]), False)
        dual = Algebra(2, DUAL)
        for value in ODD_VALUES + ((0, None), ((0, 1),), [(0, 1)], "01", (0, (1,))):
            self.assertIs(dual.is_element(value), False)

    def test_zero_and_basis(self):
        for algebra in sample_algebras():
            self.assertEqual(algebra.zero(), (0,) * algebra.n)
            for i in range(algebra.n):
                self.assertEqual(algebra.basis(i), tuple(int(k == i) for k in range(algebra.n)))
                for j in range(algebra.n):
                    self.assertEqual(algebra.multiply(algebra.basis(i), algebra.basis(j)), algebra.table[i][j])

    def test_all_elements(self):
        for algebra in sample_algebras():
            found = list(algebra.all_elements())
            self.assertEqual(found, all_rows(algebra.n, algebra.p))
            self.assertEqual(list(algebra.all_elements()), found)
        steps = Algebra(2, DUAL).all_elements()
        self.assertIs(iter(steps), steps)
        self.assertEqual(next(steps), (0, 0))
        self.assertEqual(list(steps), [(0, 1), (1, 0), (1, 1)])

    def test_sums(self):
        for algebra in sample_algebras():
            p = algebra.p
            for x, y in some_pairs(algebra):
                self.assertEqual(unchanged(self, algebra.add, x, y), tuple((a + b) % p for a, b in zip(x, y)))
                self.assertEqual(unchanged(self, algebra.subtract, x, y), tuple((a - b) % p for a, b in zip(x, y)))
                for c in (0, 1, 2, -1, -2, p, -p, p + 1, 10 ** 20 + 3, -10 ** 20):
                    self.assertEqual(algebra.scaled(c, x), tuple(c * a % p for a in x))

    def test_products(self):
        for algebra in sample_algebras():
            for x, y in some_pairs(algebra):
                self.assertEqual(unchanged(self, algebra.multiply, x, y), table_product(algebra, x, y))

    def test_products_depend_on_the_order(self):
        algebra = triangular_algebra(3, 2)
        self.assertEqual(algebra.multiply((1, 0, 0), (0, 2, 0)), (0, 2, 0))
        self.assertEqual(algebra.multiply((0, 2, 0), (1, 0, 0)), (0, 0, 0))

    def test_powers(self):
        for algebra in sample_algebras():
            for x, y in some_pairs(algebra, most=12):
                product = algebra.one
                for k in range(9):
                    self.assertEqual(unchanged(self, algebra.power, x, k), product)
                    product = table_product(algebra, product, x)
        dual = Algebra(3, DUAL)
        self.assertEqual(dual.power((0, 1), 0), (1, 0))
        self.assertEqual(dual.power((0, 0), 0), (1, 0))
        self.assertEqual(dual.power((0, 1), 1), (0, 1))
        self.assertEqual(dual.power((1, 1), 10 ** 30), (1, 1))
        self.assertEqual(dual.power((1, 1), 3 * 10 ** 30), (1, 0))

    def test_left_and_right(self):
        unlike = 0
        for algebra in sample_algebras():
            basis = [algebra.basis(i) for i in range(algebra.n)]
            for x, y in some_pairs(algebra, most=20):
                left = unchanged(self, algebra.left, x)
                right = unchanged(self, algebra.right, x)
                self.assertEqual(left, tuple(table_product(algebra, x, b) for b in basis))
                self.assertEqual(right, tuple(table_product(algebra, b, x) for b in basis))
                unlike += left != right
        self.assertGreater(unlike, 40)
        algebra = triangular_algebra(2, 2)
        self.assertEqual(algebra.left((1, 0, 0)), ((1, 0, 0), (0, 1, 0), (0, 0, 0)))
        self.assertEqual(algebra.right((1, 0, 0)), ((1, 0, 0), (0, 0, 0), (0, 0, 0)))


class ReadTest(unittest.TestCase):

    def test_reads_back_each_text(self):
        for algebra in sample_algebras():
            found = read_algebra(str(algebra))
            self.assertTrue(found == algebra)
            self.assertEqual(found.one, algebra.one)
            self.assertEqual(str(found), str(algebra))
        for p in PRIMES:
            algebra = Algebra(p, fields_table(LARGEST[p]))
            self.assertTrue(read_algebra(str(algebra)) == algebra)
            self.assertTrue(read_algebra(f"{p} 1: {p - 1}") == Algebra(p, [[(p - 1,)]]))

    def test_each_value_that_is_no_string(self):
        for value in ODD_VALUES + (Algebra(2, DUAL), DUAL, [str(Algebra(2, DUAL))], ("2 1: 1",)):
            if value != "2 1: 1":
                check_no_text(self, read_algebra, value)

    def test_wrong_texts(self):
        for text in (
            "", " ", "2", "2 ", "2 2", "2 2:", "2 2: ", ":", "2 1 1", "21: 1", "2 1:1", "2  1: 1", "2 1 : 1",
            "2 1:  1", " 2 1: 1", "2 1: 1 ", "2 1: 1\n", "\n2 1: 1", "2\t1: 1", "2 1:\t1", "2 1: 1 1", "2 1: 11",
            "2 1: 2", "3 1: 3", "5 1: 5", "7 1: 7", "7 1: 8", "7 1: 9", "2 1: -", "2 1: -1", "2 1: a", "2 1: +1",
            "1 1: 1", "0 1: 0", "4 1: 1", "6 1: 1", "8 1: 1", "9 1: 1", "11 1: 1", "-2 1: 1", "02 1: 1", "+2 1: 1",
            "2 0: ", "2 0:", "2 01: 1", "2 +1: 1", "2 -1: 1", "2 1.: 1", "2 1: 1.", "x 1: 1", "2 x: 1",
            "2 2: 10 01 01", "2 2: 10 01 01 00 00", "2 2: 10 01 01 0", "2 2: 10 01 01 000", "2 2: 100101 00",
            "2 2: 10 01 01  00", "2 2: 10  01 01 00", "2 2:  10 01 01 00", "2 2: 10 01 01 00 ", "2 2: 10 01 01 02",
            "2 2: 10,01,01,00", "2 2 10 01 01 00", "2,2: 10 01 01 00", "2 2: 1 0 0 1 0 1 0 0", "2 3: 10 01 01 00",
            "2 1: 10 01 01 00", "2 2: 10 01 01 00:", "\u0662 2: 10 01 01 00", "2 \u0662: 10 01 01 00",
            "2 1: \u0661", "2\u00a02: 10 01 01 00", "2 2:\u00a010 01 01 00", "2 1: \u00b9", "2 1: 1\u0000",
        ):
            check_no_text(self, read_algebra, text)

    def test_texts_of_no_algebra(self):
        check_no_text(self, read_algebra, "2 1: 0")
        check_no_text(self, read_algebra, "2 2: 00 00 00 00")
        check_no_text(self, read_algebra, "2 2: 01 00 10 00")
        check_no_text(self, read_algebra, "2 2: 10 01 10 01")

    def test_texts_of_too_large_ones(self):
        for p in PRIMES:
            n = LARGEST[p] + 1
            words = ["".join(str(a) for a in x) for row in fields_table(n) for x in row]
            check_no_text(self, read_algebra, f"{p} {n}: " + " ".join(words))
        check_no_text(self, read_algebra, "2 " + "9" * 5000 + ": 1")
        check_no_text(self, read_algebra, "9" * 5000 + " 1: 1")
        check_no_text(self, read_algebra, "2 99999999: " + "0 " * 1000)

    def test_every_small_change_of_a_text(self):
        text = "3 2: 10 01 01 00"
        for k in range(len(text) + 1):
            for letter in " :0123456789-a":
                for changed_text in (text[:k] + letter + text[k:], text[:k] + letter + text[k + 1:]):
                    try:
                        found = str(read_algebra(changed_text))
                    except Fault as fault:
                        self.assertEqual(fault.at, 0)
                        continue
                    self.assertEqual(found, changed_text)


if __name__ == "__main__":
    unittest.main()
