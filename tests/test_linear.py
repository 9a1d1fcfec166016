"""Rows and spaces: algebraparts.linear."""

import unittest
from itertools import islice, permutations, product

from samples import ODD_VALUES, PRIMES, all_rows, draws, kinds_of, plain_sum, spanned, unchanged

from algebraparts import linear
from algebraparts.algebra import Algebra


def spaces(width, p):
    """Reduced tables of several spaces of a width, the space 0 and the whole one too."""
    found = [linear.span(rows, width, p) for q, w, rows in draws(5) if (q, w) == (p, width)]
    found.append(linear.span(all_rows(width, p), width, p))
    return sorted(set(found))


class RowsTest(unittest.TestCase):

    def test_is_row(self):
        for p in PRIMES:
            for n in range(4):
                for row in all_rows(n, p)[:60]:
                    self.assertIs(linear.is_row(row, p, n), True)
                    self.assertIs(linear.is_row(row, p, n + 1), False)
                    self.assertIs(linear.is_row(list(row), p, n), False)
                    if n > 0:
                        self.assertIs(linear.is_row(row, p, n - 1), False)
            self.assertIs(linear.is_row((p - 1, 0), p, 2), True)
            self.assertIs(linear.is_row((p, 0), p, 2), False)
            self.assertIs(linear.is_row((0, p), p, 2), False)
            self.assertIs(linear.is_row((-1, 0), p, 2), False)
            self.assertIs(linear.is_row((0, -1), p, 2), False)
            self.assertIs(linear.is_row((0, 10 ** 30), p, 2), False)

    def test_is_row_for_every_value(self):
        for value in ((True, 0), (0, False), (0, None), ("0", 0), ((0,), 0), (0, [0]), "00", [0, 0], (0, Algebra),
                      ((0, 0), (0, 0)), [(0, 0)], 0, None, True):
            self.assertIs(linear.is_row(value, 2, 2), False, value)
        for value in ODD_VALUES:
            for n in range(3):
                wanted = n == 0 and value.__class__ is tuple and value == ()
                self.assertIs(linear.is_row(value, 2, n), wanted, (value, n))

    def test_add_scaled_dot(self):
        for p in PRIMES:
            for width in (0, 1, 2):
                for v in all_rows(width, p):
                    for w in all_rows(width, p)[::3]:
                        self.assertEqual(linear.add(v, w, p), tuple((a + b) % p for a, b in zip(v, w)))
                        self.assertEqual(linear.dot(v, w, p), sum(a * b for a, b in zip(v, w)) % p)
                    for a in (0, 1, 2, -1, -2, p, -p, 3 * p, p - 1, p + 1, -10 ** 20, 10 ** 20 + 1):
                        self.assertEqual(linear.scaled(v, a, p), tuple(a * b % p for b in v))
            self.assertEqual(linear.scaled((1, p - 1), 0, p), (0, 0))
            self.assertEqual(linear.scaled((1, p - 1), -7 * p, p), (0, 0))
            self.assertEqual(linear.scaled((1, p - 1), -1, p), (p - 1, 1))
        self.assertEqual(linear.add((), (), 3), ())
        self.assertEqual(linear.scaled((), 4, 3), ())
        self.assertEqual(linear.dot((), (), 3), 0)
        self.assertEqual(linear.dot((2, 2, 1), (1, 2, 2), 3), 2)

    def test_combine(self):
        for p, width, rows in draws(1):
            for seed in range(3):
                weights = [(-1) ** k * (3 * k + seed) * (1 + 10 * seed) for k in range(len(rows))]
                wanted = plain_sum(rows, weights, width, p)
                self.assertEqual(unchanged(self, linear.combine, rows, weights, width, p), wanted)
                self.assertEqual(linear.combine(tuple(rows), tuple(weights), width, p), wanted)
        for p in PRIMES:
            self.assertEqual(linear.combine([], [], 3, p), (0, 0, 0))
            self.assertEqual(linear.combine((), (), 0, p), ())
            self.assertEqual(linear.combine([(1, 0)], [-1], 2, p), (p - 1, 0))
            self.assertEqual(linear.combine([(1, 1)], [p + 1], 2, p), (1, 1))
            self.assertEqual(linear.combine([(1, 1)], [p], 2, p), (0, 0))

    def test_results_are_tuples_of_plain_integers(self):
        rows = [[(1, 2, 0)], ((1, 2, 0), (2, 1, 1))]
        for some in rows:
            for out in (linear.span(some, 3, 3), linear.kernel(some, 3, 3), linear.relations(some, 3, 3),
                        linear.combine(some, [1] * len(some), 3, 3), linear.solve(some, 3, [4] * len(some), 3),
                        linear.coordinates(some, some[0], 3), *linear.reduced(some, 3, 3)):
                self.assertEqual(kinds_of(out)[0], "tuple")
                self.assertNotIn("list", str(kinds_of(out)))
                self.assertNotIn("bool", str(kinds_of(out)))


class ReducedTest(unittest.TestCase):

    def check_form(self, table, pivots, width, p):
        self.assertEqual(len(table), len(pivots))
        self.assertEqual(list(pivots), sorted(set(pivots)))
        for row, pivot in zip(table, pivots):
            self.assertTrue(linear.is_row(row, p, width))
            self.assertEqual([a for a in row if a][:1], [1])
            self.assertEqual(row.index(1), pivot)
            self.assertTrue(all(a == 0 for a in row[:pivot]))
            for other in table:
                self.assertEqual(other[pivot], int(other == row))

    def test_the_form_and_the_space(self):
        for p, width, rows in draws(2):
            table, pivots = unchanged(self, linear.reduced, rows, width, p)
            self.check_form(table, pivots, width, p)
            self.assertEqual(spanned(table, width, p), spanned(rows, width, p))
            self.assertEqual(len(spanned(rows, width, p)), p ** len(table))
            self.assertEqual(linear.reduced(tuple(rows), width, p), (table, pivots))
            self.assertEqual(linear.span(rows, width, p), table)
            self.assertEqual(linear.span(table, width, p), table)

    def test_the_order_of_the_rows_does_not_matter(self):
        for p, width, rows in draws(3):
            wanted = linear.reduced(rows, width, p)
            for order in islice(permutations(rows), 0, 30, 7):
                self.assertEqual(linear.reduced(list(order), width, p), wanted)

    def test_equal_spaces_have_equal_tables(self):
        for p, width in ((2, 3), (3, 2)):
            tables = {}
            for rows in product(all_rows(width, p), repeat=2):
                key = frozenset(spanned(rows, width, p))
                table = linear.span(rows, width, p)
                self.assertEqual(tables.setdefault(key, table), table)
            self.assertEqual(len(set(tables.values())), len(tables))

    def test_edges(self):
        for p in PRIMES:
            self.assertEqual(linear.reduced([], 3, p), ((), ()))
            self.assertEqual(linear.reduced((), 0, p), ((), ()))
            self.assertEqual(linear.reduced([(), ()], 0, p), ((), ()))
            self.assertEqual(linear.reduced([(0, 0)], 2, p), ((), ()))
            self.assertEqual(linear.reduced([(p - 1,)], 1, p), (((1,),), (0,)))
            self.assertEqual(linear.reduced([(0, p - 1)], 2, p), (((0, 1),), (1,)))
            self.assertEqual(linear.reduced(all_rows(2, p), 2, p), (((1, 0), (0, 1)), (0, 1)))
        self.assertEqual(linear.span(((2, 1, 0), (1, 1, 1)), 3, 3), ((1, 0, 2), (0, 1, 2)))


class EquationsTest(unittest.TestCase):

    def test_kernel(self):
        for p, width, rows in draws(4):
            found = unchanged(self, linear.kernel, rows, width, p)
            wanted = [v for v in all_rows(width, p) if all(sum(a * b for a, b in zip(v, row)) % p == 0 for row in rows)]
            self.assertEqual(sorted(spanned(found, width, p)), wanted)
            self.assertEqual(linear.span(found, width, p), found)
            self.assertEqual(linear.kernel(tuple(rows), width, p), found)
        self.assertEqual(linear.kernel(((1, 1, 1),), 3, 2), ((1, 0, 1), (0, 1, 1)))
        self.assertEqual(linear.kernel([], 2, 5), ((1, 0), (0, 1)))
        self.assertEqual(linear.kernel([], 0, 5), ())

    def test_relations(self):
        for p, width, rows in draws(5):
            if p ** len(rows) > 700:
                continue
            found = unchanged(self, linear.relations, rows, width, p)
            zeros = (0,) * width
            wanted = [v for v in all_rows(len(rows), p) if plain_sum(rows, v, width, p) == zeros]
            self.assertEqual(sorted(spanned(found, len(rows), p)), wanted)
            self.assertEqual(linear.span(found, len(rows), p), found)
            self.assertEqual(linear.relations(tuple(rows), width, p), found)
        self.assertEqual(linear.relations([], 3, 2), ())
        self.assertEqual(linear.relations([(), ()], 0, 3), ((1, 0), (0, 1)))
        self.assertEqual(linear.relations([(1, 2), (2, 1)], 2, 3), ((1, 1),))

    def test_solve(self):
        solved = 0
        for p, width, rows in draws(6):
            _, pivots = linear.reduced(rows, width, p)
            free = [k for k in range(width) if k not in pivots]
            for seed in range(4):
                right = [(3 * k + 2 * seed - 4) * (1 + 5 * seed) for k in range(len(rows))]
                if seed == 3:
                    v = tuple(range(width))
                    right = [sum(a * b for a, b in zip(v, row)) - p * k for k, row in enumerate(rows)]
                found = unchanged(self, linear.solve, rows, width, right, p)
                self.assertEqual(linear.solve(tuple(rows), width, tuple(right), p), found)
                fitting = [v for v in all_rows(width, p) if all(
                    (sum(a * b for a, b in zip(v, row)) - c) % p == 0 for row, c in zip(rows, right))]
                wanted = [v for v in fitting if all(v[k] == 0 for k in free)]
                if fitting:
                    self.assertEqual([found], wanted)
                    solved += 1
                else:
                    self.assertIsNone(found)
        self.assertGreater(solved, 50)

    def test_solve_at_the_edges(self):
        for p in PRIMES:
            self.assertEqual(linear.solve([], 2, [], p), (0, 0))
            self.assertEqual(linear.solve([], 0, [], p), ())
            self.assertEqual(linear.solve([()], 0, [p], p), ())
            self.assertIsNone(linear.solve([()], 0, [1], p))
            self.assertIsNone(linear.solve([(0,)], 1, [1], p))
            self.assertEqual(linear.solve([(0,)], 1, [-p], p), (0,))
            self.assertEqual(linear.solve([(1,)], 1, [-1], p), (p - 1,))
            self.assertEqual(linear.solve([(1, 1)], 2, [p + 1], p), (1, 0))
            self.assertEqual(linear.solve([(0, 1)], 2, [10 * p + 1], p), (0, 1))
            self.assertIsNone(linear.solve([(1, 1), (1, 1)], 2, [0, 1], p))

    def test_coordinates(self):
        answers = {True: 0, False: 0}
        for p, width, rows in draws(7):
            rows = [row for k, row in enumerate(rows) if row not in spanned(rows[:k], width, p)]
            for v in all_rows(width, p)[:40]:
                found = unchanged(self, linear.coordinates, rows, v, p)
                self.assertEqual(linear.coordinates(tuple(rows), v, p), found)
                fits = [c for c in all_rows(len(rows), p) if plain_sum(rows, c, width, p) == v]
                self.assertEqual([found], fits or [None])
                answers[found is None] += 1
        self.assertGreater(answers[True], 20)
        self.assertGreater(answers[False], 20)

    def test_coordinates_at_the_edges(self):
        for p in PRIMES:
            self.assertEqual(linear.coordinates([], (), p), ())
            self.assertEqual(linear.coordinates([], (0, 0), p), ())
            self.assertIsNone(linear.coordinates([], (0, 1), p))
            self.assertEqual(linear.coordinates([(1,)], (p - 1,), p), (p - 1,))
            self.assertEqual(linear.coordinates([(0, 1), (1, 0)], (1, 0), p), (0, 1))


class SpacesTest(unittest.TestCase):

    sizes = ((2, 0), (2, 1), (2, 3), (3, 0), (3, 1), (3, 2), (5, 1), (5, 2), (7, 0), (7, 2))

    def test_rest_and_space_holds(self):
        for p, width in self.sizes:
            for space in spaces(width, p):
                inside = spanned(space, width, p)
                pivots = [row.index(1) for row in space]
                for v in all_rows(width, p):
                    found = unchanged(self, linear.rest, space, v, p)
                    self.assertTrue(linear.is_row(found, p, width))
                    self.assertTrue(all(found[k] == 0 for k in pivots))
                    self.assertIn(plain_sum((v, found), (1, -1), width, p), inside)
                    self.assertIs(linear.space_holds(space, v, p), v in inside)

    def test_sum_and_common_part(self):
        for p, width in self.sizes:
            for a in spaces(width, p):
                for b in spaces(width, p)[:8]:
                    one, two = spanned(a, width, p), spanned(b, width, p)
                    both = unchanged(self, linear.sum_of, a, b, width, p)
                    self.assertEqual(spanned(both, width, p), {plain_sum((v, w), (1, 1), width, p)
                                                               for v in one for w in two})
                    self.assertEqual(linear.span(both, width, p), both)
                    common = unchanged(self, linear.common_part, a, b, width, p)
                    self.assertEqual(spanned(common, width, p), one & two)
                    self.assertEqual(linear.span(common, width, p), common)

    def test_sum_and_common_part_of_special_spaces(self):
        for p in PRIMES:
            line, other, plane = ((1, 0, 0),), ((0, 1, 1),), ((1, 0, 0), (0, 1, 1))
            whole = ((1, 0, 0), (0, 1, 0), (0, 0, 1))
            self.assertEqual(linear.sum_of(line, line, 3, p), line)
            self.assertEqual(linear.common_part(line, line, 3, p), line)
            self.assertEqual(linear.sum_of(line, other, 3, p), plane)
            self.assertEqual(linear.common_part(line, other, 3, p), ())
            self.assertEqual(linear.sum_of(line, plane, 3, p), plane)
            self.assertEqual(linear.common_part(plane, line, 3, p), line)
            self.assertEqual(linear.sum_of(plane, whole, 3, p), whole)
            self.assertEqual(linear.common_part(plane, whole, 3, p), plane)
            self.assertEqual(linear.sum_of((), plane, 3, p), plane)
            self.assertEqual(linear.common_part((), plane, 3, p), ())
            self.assertEqual(linear.sum_of((), (), 3, p), ())
            self.assertEqual(linear.common_part((), (), 3, p), ())
            self.assertEqual(linear.sum_of((), (), 0, p), ())
            self.assertEqual(linear.common_part((), (), 0, p), ())

    def test_members(self):
        for p, width in self.sizes:
            for space in spaces(width, p):
                found = list(linear.members(space, width, p))
                self.assertEqual(found, sorted(spanned(space, width, p)))
                self.assertEqual(list(linear.members(space, width, p)), found)

    def test_members_at_the_edges(self):
        for p in PRIMES:
            self.assertEqual(list(linear.members((), 0, p)), [()])
            self.assertEqual(list(linear.members((), 3, p)), [(0, 0, 0)])
            self.assertEqual(list(linear.members(((1,),), 1, p)), [(a,) for a in range(p)])
            self.assertEqual(list(linear.members(((1, 0, 1), (0, 1, 0)), 3, p)),
                             [(a, b, a) for a in range(p) for b in range(p)])

    def test_members_is_a_generator(self):
        rows = linear.members(((1, 0), (0, 1)), 2, 2)
        self.assertIs(iter(rows), rows)
        self.assertEqual(next(rows), (0, 0))
        self.assertEqual(next(rows), (0, 1))
        self.assertEqual(list(rows), [(1, 0), (1, 1)])
        width = 80
        whole = tuple(tuple(int(i == k) for k in range(width)) for i in range(width))
        first = list(islice(linear.members(whole, width, 7), 8))
        self.assertEqual(first[1], (0,) * (width - 1) + (1,))
        self.assertEqual(first[7], (0,) * (width - 2) + (1, 0))


if __name__ == "__main__":
    unittest.main()
