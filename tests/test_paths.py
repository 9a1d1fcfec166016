"""Incidence algebras and path algebras: algebraparts.paths."""

import unittest
from itertools import product
from random import Random

from samples import (
    ODD_VALUES, PRIMES, WRONG_PRIMES, check_malformed, check_refused, some_pairs, unchanged,
)

from algebraparts.algebra import Algebra
from algebraparts.build import matrix_algebra, triangular_algebra
from algebraparts.paths import incidence_algebra, path_algebra

LARGEST = {2: 12, 3: 7, 5: 5, 7: 4}
WRONG_COUNTS = tuple(value for value in ODD_VALUES if not (value.__class__ is int and value > 0)) + (-10 ** 30, "3")
WRONG_PAIRS = tuple(value for value in ODD_VALUES if value not in ([], ())) + (
    (0, 1), [0, 1], ((0,),), [(0, 1, 2)], [[0, 1]], ([0, 1],), [(0, 1), [1, 2]], [(0, 3)], [(3, 0)], [(-1, 0)],
    [(0, -1)], [(0, True)], [(False, 1)], [(0, None)], [("0", "1")], ["01"], "01", [(0, 1), None], [(0, 1), ()],
    [(0, (1,))], {(0, 1): True}, [((0, 1), (1, 2))], [(0, 10 ** 30)], [None] * 20,
)
MANY = 20000


def closed_order(n, pairs):
    """The pairs of the least order, by going on until nothing is new."""
    found = {(i, i) for i in range(n)} | set(pairs)
    while True:
        more = found | {(i, m) for i, j in found for k, m in found if j == k}
        if more == found:
            return sorted(found)
        found = more


def paths_of(n, arrows):
    """All paths of a quiver without circles as tuples (number of arrows, indexes, first, last), in order."""
    found = [(0, (), i, i) for i in range(n)]
    for many in range(1, len(arrows) + 1):
        for indexes in product(range(len(arrows)), repeat=many):
            ends = [arrows[k] for k in indexes]
            if all(one[1] == two[0] for one, two in zip(ends, ends[1:])):
                found.append((many, indexes, ends[0][0], ends[-1][1]))
    return found


class IncidenceTest(unittest.TestCase):

    def check_order(self, p, n, pairs, order):
        algebra = unchanged(self, incidence_algebra, p, n, pairs)
        self.assertEqual((algebra.p, algebra.n), (p, len(order)))
        self.assertEqual(algebra.one, tuple(int(i == j) for i, j in order))
        for a, (i, j) in enumerate(order):
            for b, (k, m) in enumerate(order):
                wanted = algebra.basis(order.index((i, m))) if j == k else algebra.zero()
                self.assertEqual(algebra.multiply(algebra.basis(a), algebra.basis(b)), wanted)
        self.assertTrue(incidence_algebra(p, n, tuple(pairs)) == algebra)

    def test_drawn_orders(self):
        random = Random(3)
        checked = 0
        for p in PRIMES:
            for _ in range(60):
                n = random.randrange(1, 5)
                names = random.sample(range(n), n)
                pairs = []
                for _ in range(random.randrange(0, 4)):
                    i, j = sorted((random.randrange(n), random.randrange(n)))
                    pairs.append((names[i], names[j]))
                order = closed_order(n, pairs)
                if len(order) <= LARGEST[p]:
                    self.check_order(p, n, pairs, order)
                    checked += 1
                else:
                    check_refused(self, "large", incidence_algebra, p, n, pairs)
        self.assertGreater(checked, 100)

    def test_pairs_that_follow_from_others(self):
        wanted = triangular_algebra(2, 3)
        for pairs in ([(0, 1), (1, 2)], [(1, 2), (0, 1)], [(0, 1), (0, 2), (1, 2)], ((0, 1), (1, 2), (0, 1)),
                      [(0, 0), (0, 1), (1, 1), (1, 2), (2, 2)]):
            self.assertTrue(incidence_algebra(2, 3, pairs) == wanted)
        wanted = triangular_algebra(2, 4)
        self.assertTrue(incidence_algebra(2, 4, [(2, 3), (1, 2), (0, 1)]) == wanted)
        self.assertTrue(incidence_algebra(2, 4, [(0, 1), (2, 3), (1, 2)]) == wanted)

    def test_equal_points_doubled_pairs_and_none(self):
        for p in PRIMES:
            none = incidence_algebra(p, 3, [])
            self.check_order(p, 3, [], [(0, 0), (1, 1), (2, 2)])
            self.assertTrue(incidence_algebra(p, 3, ()) == none)
            self.assertTrue(incidence_algebra(p, 3, [(1, 1)]) == none)
            self.assertTrue(incidence_algebra(p, 3, [(2, 2), (0, 0), (2, 2), (1, 1)]) == none)
            self.check_order(p, 3, [(2, 0), (2, 0), (2, 2)], [(0, 0), (1, 1), (2, 0), (2, 2)])
            self.assertTrue(incidence_algebra(p, 1, []) == Algebra(p, [[(1,)]]))
            self.assertTrue(incidence_algebra(p, 1, [(0, 0)] * 50) == Algebra(p, [[(1,)]]))
            self.assertTrue(incidence_algebra(p, 2, [(0, 1)]) == triangular_algebra(p, 2))
        self.check_order(2, 4, [(3, 1), (1, 0)], [(0, 0), (1, 0), (1, 1), (2, 2), (3, 0), (3, 1), (3, 3)])

    def test_products_of_elements(self):
        algebra = incidence_algebra(2, 3, [(0, 2), (1, 2)])
        order = [(0, 0), (0, 2), (1, 1), (1, 2), (2, 2)]
        for x, y in some_pairs(algebra):
            out = {pair: 0 for pair in order}
            for a, (i, j) in zip(x, order):
                for b, (k, m) in zip(y, order):
                    if j == k:
                        out[i, m] += a * b
            self.assertEqual(algebra.multiply(x, y), tuple(out[pair] % 2 for pair in order))

    def test_order_is_refused(self):
        for p in PRIMES:
            for n, pairs in (
                (2, [(0, 1), (1, 0)]), (3, [(0, 1), (1, 2), (2, 0)]), (4, [(3, 2), (2, 1), (1, 3)]),
                (2, [(0, 0), (0, 1), (1, 1), (1, 0)]), (4, ((0, 1), (1, 2), (2, 3), (3, 1))),
                (6, [(5, 0), (0, 4), (4, 3), (3, 2), (2, 1), (1, 5)]), (3, [(0, 1), (1, 0), (0, 1)]),
            ):
                check_refused(self, "order", incidence_algebra, p, n, pairs)

    def test_order_is_ahead_of_large(self):
        for n in (13, 100, 10 ** 6, 10 ** 100):
            check_refused(self, "order", incidence_algebra, 2, n, [(n - 1, 0), (0, n - 1)])
            check_refused(self, "order", incidence_algebra, 2, n, [(n - 1, 0), (0, 4), (4, n - 2), (n - 2, n - 1)])
            check_refused(self, "large", incidence_algebra, 2, n, [(n - 1, 0), (0, 4), (4, 4), (4, n - 2)])
        chain = [(k, k + 1) for k in range(MANY)]
        check_refused(self, "order", incidence_algebra, 2, MANY + 1, chain + [(MANY, 0)])
        check_refused(self, "large", incidence_algebra, 2, MANY + 1, chain)

    def test_large_at_the_edge(self):
        for p in PRIMES:
            most = LARGEST[p]
            self.assertEqual(incidence_algebra(p, most, []).n, most)
            check_refused(self, "large", incidence_algebra, p, most + 1, [])
            self.assertEqual(incidence_algebra(p, most - 1, [(1, 0)]).n, most)
            check_refused(self, "large", incidence_algebra, p, most - 1, [(0, 1), (0, 2)])
            check_refused(self, "large", incidence_algebra, p, most, [(1, 0)])
            for n in (10 ** 6, 10 ** 100):
                check_refused(self, "large", incidence_algebra, p, n, [])
        # The order of a chain of 4 points has 10 pairs, that of one of 5 points 15.
        self.assertEqual(incidence_algebra(2, 4, [(0, 1), (1, 2), (2, 3)]).n, 10)
        check_refused(self, "large", incidence_algebra, 2, 5, [(0, 1), (1, 2), (2, 3), (3, 4)])
        # Pairs that follow from others count only once.
        self.assertEqual(incidence_algebra(2, 2, [(0, 1)] * MANY).n, 3)


class PathTest(unittest.TestCase):

    def check_paths(self, p, n, arrows):
        paths = paths_of(n, arrows)
        algebra = unchanged(self, path_algebra, p, n, arrows)
        self.assertEqual((algebra.p, algebra.n), (p, len(paths)))
        self.assertEqual(algebra.one, (1,) * n + (0,) * (len(paths) - n))
        self.assertEqual(paths, sorted(paths))
        for a, (many, indexes, first, last) in enumerate(paths):
            for b, (more, others, begin, end) in enumerate(paths):
                wanted = algebra.zero()
                if last == begin:
                    wanted = algebra.basis(paths.index((many + more, indexes + others, first, end)))
                self.assertEqual(algebra.multiply(algebra.basis(a), algebra.basis(b)), wanted)
        self.assertTrue(path_algebra(p, n, tuple(arrows)) == algebra)

    def test_drawn_quivers(self):
        random = Random(4)
        checked = 0
        for p in PRIMES:
            for _ in range(60):
                n = random.randrange(1, 5)
                names = random.sample(range(n), n)
                arrows = []
                for _ in range(random.randrange(0, 5)):
                    i, j = sorted((random.randrange(n), random.randrange(n)))
                    if i < j:
                        arrows.append((names[i], names[j]))
                if len(paths_of(n, arrows)) <= LARGEST[p]:
                    self.check_paths(p, n, arrows)
                    checked += 1
                else:
                    check_refused(self, "large", path_algebra, p, n, arrows)
        self.assertGreater(checked, 100)

    def test_several_arrows_of_one_pair(self):
        for p in PRIMES:
            self.check_paths(p, 2, [(0, 1), (0, 1)])
        self.check_paths(2, 2, [(1, 0), (1, 0), (1, 0)])
        self.check_paths(2, 3, [(0, 1), (0, 1), (1, 2), (1, 2)])
        self.check_paths(2, 3, [(1, 2), (0, 1), (1, 2), (0, 1)])
        self.check_paths(2, 3, [(0, 1), (1, 2), (0, 2)])

    def test_no_arrows_and_isolated_points(self):
        for p in PRIMES:
            self.assertTrue(path_algebra(p, 1, []) == Algebra(p, [[(1,)]]))
            self.check_paths(p, 3, [])
            self.check_paths(p, 1, ())
            self.check_paths(p, 3, [(2, 1)])
        self.check_paths(2, 5, [(4, 1), (1, 3)])

    def test_the_order_of_the_basis(self):
        # Paths: three points, the arrows 0: 1 to 2, 1: 0 to 1, 2: 0 to 1, then (1, 0) and (2, 0).
        algebra = path_algebra(2, 3, [(1, 2), (0, 1), (0, 1)])
        self.assertEqual(algebra.n, 8)
        e = [algebra.basis(i) for i in range(8)]
        self.assertEqual(algebra.multiply(e[1], e[3]), e[3])
        self.assertEqual(algebra.multiply(e[3], e[2]), e[3])
        self.assertEqual(algebra.multiply(e[0], e[4]), e[4])
        self.assertEqual(algebra.multiply(e[4], e[3]), e[6])
        self.assertEqual(algebra.multiply(e[5], e[3]), e[7])
        self.assertEqual(algebra.multiply(e[3], e[4]), algebra.zero())
        self.assertEqual(algebra.multiply(e[2], e[3]), algebra.zero())
        self.assertEqual(path_algebra(3, 2, [(0, 1)]).multiply((1, 0, 0), (0, 0, 1)), (0, 0, 1))

    def test_many_arrows_in_a_row(self):
        # A line of four points: 4 points, 3 arrows, 2 paths of two arrows, 1 of three.
        algebra = path_algebra(2, 4, [(2, 3), (1, 2), (0, 1)])
        self.assertEqual(algebra.n, 10)
        self.check_paths(2, 4, [(2, 3), (1, 2), (0, 1)])
        self.check_paths(2, 4, [(0, 1), (1, 2), (2, 3)])

    def test_circle_is_refused(self):
        for p in PRIMES:
            for n, arrows in (
                (1, [(0, 0)]), (3, [(1, 1)]), (2, [(0, 1), (1, 0)]), (3, [(0, 1), (1, 2), (2, 0)]),
                (4, ((0, 1), (1, 2), (2, 3), (3, 1))), (5, [(0, 1), (2, 3), (3, 4), (4, 2)]), (2, [(0, 1), (1, 1)]),
                (2, [(0, 0), (0, 1)]), (3, [(0, 1), (0, 1), (1, 0)]),
            ):
                check_refused(self, "circle", path_algebra, p, n, arrows)

    def test_circle_is_ahead_of_large(self):
        for n in (13, 100, 10 ** 6, 10 ** 100):
            check_refused(self, "circle", path_algebra, 2, n, [(n - 1, n - 1)])
            check_refused(self, "circle", path_algebra, 2, n, [(n - 1, 0), (0, n - 2), (n - 2, n - 1)])
            check_refused(self, "large", path_algebra, 2, n, [(n - 1, 0), (0, n - 2)])
        check_refused(self, "circle", path_algebra, 2, 3, [(0, 1)] * MANY + [(2, 2)])
        check_refused(self, "large", path_algebra, 2, 3, [(0, 1)] * MANY)

    def test_large_at_the_edge(self):
        for p in PRIMES:
            most = LARGEST[p]
            self.assertEqual(path_algebra(p, most, []).n, most)
            check_refused(self, "large", path_algebra, p, most + 1, [])
            for n in range(2, most):
                arrows = [(0, 1)] * (most - n)
                self.assertEqual(path_algebra(p, n, arrows).n, most)
                check_refused(self, "large", path_algebra, p, n, arrows + [(0, 1)])
                check_refused(self, "large", path_algebra, p, n + 1, arrows)
        # 4 arrows and 4 paths of two arrows, beside the points.
        self.assertEqual(path_algebra(2, 3, [(0, 1), (0, 1), (1, 2), (1, 2)]).n, 11)
        self.assertEqual(path_algebra(2, 4, [(0, 1), (0, 1), (1, 2), (1, 2)]).n, 12)
        check_refused(self, "large", path_algebra, 2, 5, [(0, 1), (0, 1), (1, 2), (1, 2)])
        check_refused(self, "large", path_algebra, 2, 3, [(0, 1), (0, 1), (1, 2), (1, 2), (0, 1)])

    def test_very_many_paths(self):
        # 2^k paths from the first to the last point.
        for k in (5, 200, 3000):
            arrows = [(i, i + 1) for i in range(k) for _ in range(2)]
            check_refused(self, "large", path_algebra, 2, k + 1, arrows)
            check_refused(self, "circle", path_algebra, 2, k + 1, arrows + [(k, 0)])
        every = [(i, j) for i in range(12) for j in range(i + 1, 12)]
        check_refused(self, "large", path_algebra, 2, 12, every)
        for p in PRIMES:
            check_refused(self, "large", path_algebra, p, 4, [(i, j) for i in range(4) for j in range(i + 1, 4)] * 9)
            check_refused(self, "large", path_algebra, p, 10 ** 100, [])


class WrongArgumentsTest(unittest.TestCase):

    def test_wrong_primes(self):
        for function in (incidence_algebra, path_algebra):
            for p in WRONG_PRIMES:
                for n, pairs in ((2, [(0, 1)]), (2, [(0, 1), (1, 0)]), (50, []), (None, None), (0, [])):
                    check_malformed(self, function, p, n, pairs)

    def test_wrong_numbers_of_points(self):
        for function in (incidence_algebra, path_algebra):
            for n in WRONG_COUNTS:
                for pairs in ([], [(0, 0)], [(0, 1), (1, 0)], None):
                    check_malformed(self, function, 2, n, pairs)

    def test_wrong_pairs(self):
        for function in (incidence_algebra, path_algebra):
            for pairs in WRONG_PAIRS:
                check_malformed(self, function, 2, 3, pairs)
            check_malformed(self, function, 2, 1, [(0, 1)])
            check_malformed(self, function, 2, 1, [(1, 0)])

    def test_malformed_is_ahead_of_the_others(self):
        for function in (incidence_algebra, path_algebra):
            check_malformed(self, function, 2, 2, [(0, 1), (1, 0), (1, 2)])
            check_malformed(self, function, 2, 2, [(0, 1), (1, 0), (1, True)])
            check_malformed(self, function, 2, 50, [(0, 50)])
            check_malformed(self, function, 9, 50, [])

    def test_points_at_the_edge(self):
        for function in (incidence_algebra, path_algebra):
            self.assertEqual(function(2, 2, [(1, 0)]).n, 3)
            check_malformed(self, function, 2, 2, [(2, 0)])
            check_malformed(self, function, 2, 2, [(1, -1)])

    def test_the_matrices_are_no_order(self):
        self.assertEqual(matrix_algebra(2, 2).n, 4)
        check_refused(self, "order", incidence_algebra, 2, 2, [(0, 1), (1, 0)])


if __name__ == "__main__":
    unittest.main()
