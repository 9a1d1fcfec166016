"""Lifted idempotents: algebraparts.lifting."""

import unittest

from algebras import (
    DUAL, drawn_algebras, least_algebras, members_of, numbers, small_algebras, tiny_algebras, total, truncated,
)
from samples import PRIMES, check_malformed, check_refused, kinds_of, spanned, unchanged
from test_centre import NO_ELEMENTS
from test_ideals import odd_rows, odd_spaces

from algebraparts import linear
from algebraparts.algebra import Algebra
from algebraparts.build import matrix_algebra, triangular_algebra
from algebraparts.ideals import is_ideal, nilpotency
from algebraparts.lifting import is_idempotent, lifted, lifted_system
from algebraparts.radical import radical, radical_powers


def nilpotent_ideals(algebra):
    """The ideal 0, the radical, its powers, and some more nilpotent ideals."""
    found = [(), radical(algebra), *radical_powers(algebra)]
    found.extend((row,) for row in radical(algebra) if is_ideal(algebra, (row,)))
    return sorted(set(found))


def defect(algebra, x):
    return algebra.subtract(algebra.multiply(x, x), x)


def cases():
    """Algebras of several kinds, each with a nilpotent ideal."""
    for algebra in list(small_algebras().values()) + list(drawn_algebras().values()):
        for space in nilpotent_ideals(algebra):
            yield algebra, space


class IdempotentTest(unittest.TestCase):

    def test_against_all_elements(self):
        answers = {True: 0, False: 0}
        for algebra in small_algebras().values():
            for x in members_of(algebra):
                found = unchanged(self, is_idempotent, algebra, x)
                self.assertIs(found, algebra.multiply(x, x) == x)
                answers[found] += 1
        self.assertGreater(min(answers.values()), 100)

    def test_other_values(self):
        for x in NO_ELEMENTS:
            check_malformed(self, is_idempotent, truncated(3, 2), x)
        self.assertIs(is_idempotent(truncated(3, 2), (0, 0)), True)
        self.assertIs(is_idempotent(truncated(3, 2), (1, 0)), True)
        self.assertIs(is_idempotent(truncated(3, 2), (1, 1)), False)


class LiftedTest(unittest.TestCase):

    def test_all_elements(self):
        moved = 0
        for algebra, space in cases():
            inside = spanned(space, algebra.n, algebra.p)
            for x in members_of(algebra)[::1 if algebra.p ** algebra.n < 50 else 3]:
                if defect(algebra, x) not in inside:
                    check_refused(self, "idempotent", lifted, algebra, space, x)
                    continue
                found = lifted(algebra, space, x)
                self.assertTrue(algebra.is_element(found))
                self.assertEqual(algebra.multiply(found, found), found)
                self.assertIn(algebra.subtract(found, x), inside, (str(algebra), space, x))
                values = linear.span([algebra.power(x, k) for k in range(1, algebra.n + 2)], algebra.n, algebra.p)
                self.assertTrue(linear.space_holds(values, found, algebra.p))
                if algebra.multiply(x, x) == x:
                    self.assertEqual(found, x)
                moved += found != x
        self.assertGreater(moved, 500)

    def test_there_is_one_alone(self):
        for algebra in least_algebras(49).values():
            for space in nilpotent_ideals(algebra):
                inside = spanned(space, algebra.n, algebra.p)
                for x in members_of(algebra)[::3]:
                    if defect(algebra, x) not in inside:
                        continue
                    values = spanned([algebra.power(x, k) for k in range(1, algebra.n + 2)], algebra.n, algebra.p)
                    wanted = [y for y in values if algebra.multiply(y, y) == y and algebra.subtract(x, y) in inside]
                    self.assertEqual(wanted, [unchanged(self, lifted, algebra, space, x)])

    def test_the_ideal_0(self):
        for algebra in tiny_algebras().values():
            for x in members_of(algebra)[:30]:
                if algebra.multiply(x, x) == x:
                    self.assertEqual(lifted(algebra, (), x), x)
                else:
                    check_refused(self, "idempotent", lifted, algebra, (), x)

    def test_known_ones(self):
        for p in PRIMES:
            algebra = triangular_algebra(p, 2)
            self.assertEqual(lifted(algebra, ((0, 1, 0),), (1, p - 1, 0)), (1, p - 1, 0))
            self.assertEqual(lifted(algebra, ((0, 1, 0),), (1, 1, 1)), (1, 0, 1))
            self.assertEqual(kinds_of(lifted(algebra, ((0, 1, 0),), (0, 1, 0))), kinds_of((0, 0, 0)))
            dual = Algebra(p, DUAL)
            self.assertEqual(lifted(dual, ((0, 1),), (1, p - 1)), (1, 0))
            self.assertEqual(lifted(dual, ((0, 1),), (0, p - 1)), (0, 0))
            check_refused(self, "idempotent", lifted, dual, (), (1, 1))
            if p > 2:
                check_refused(self, "idempotent", lifted, dual, ((0, 1),), (2, 1))

    def test_long_chains(self):
        for p, n in ((2, 12), (3, 7), (5, 5), (7, 4)):
            algebra = truncated(p, n)
            for x in members_of(algebra)[1::97]:
                if x[0] < 2:
                    wanted = algebra.one if x[0] else algebra.zero()
                    self.assertEqual(lifted(algebra, radical(algebra), x), wanted)

    def test_wrong_ideals(self):
        for p in PRIMES:
            algebra = triangular_algebra(p, 2)
            whole = ((1, 0, 0), (0, 1, 0), (0, 0, 1))
            # No ideals at all, ideals that are not nilpotent, and nilpotent spaces that are no ideals.
            wrong = [((1, 0, 0),), ((0, 0, 1),), ((1, 0, 1),), ((1, 0, 0), (0, 1, 0)), ((0, 1, 0), (0, 0, 1)), whole]
            for space in wrong:
                for x in ((0, 0, 0), (1, 0, 1), (1, 1, 0), (1, 1, 1), (0, p - 1, p - 1)):
                    check_refused(self, "ideal", lifted, algebra, space, x)
            matrices = matrix_algebra(p, 2)
            nilpotent = ((0, 1, 0, 0),)
            self.assertEqual(nilpotency(matrices, nilpotent), 2)
            for x in ((1, 0, 0, 0), (1, 0, 1, 1), (1, 1, 1, 1)):
                check_refused(self, "ideal", lifted, matrices, nilpotent, x)
                check_refused(self, "ideal", lifted_system, matrices, nilpotent, [x])

    def test_other_values(self):
        algebra = truncated(3, 2)
        for value in odd_spaces():
            check_malformed(self, lifted, algebra, value, (1, 0))
            check_malformed(self, lifted, algebra, value, (1, 1))
            check_malformed(self, lifted_system, algebra, value, [(1, 0)])
            check_malformed(self, lifted_system, algebra, value, [])
        for x in NO_ELEMENTS:
            for space in ((), ((0, 1),), ((1, 0),), ((1, 0), (0, 1))):
                check_malformed(self, lifted, algebra, space, x)
        for rows in odd_rows():
            for space in ((), ((0, 1),), ((1, 0),), ((1, 0), (0, 1))):
                check_malformed(self, lifted_system, algebra, space, rows)


class SystemTest(unittest.TestCase):

    def is_system(self, algebra, inside, rows):
        """True if the rows are an orthogonal system modulo a space, by the words of point 4.6."""
        for i, x in enumerate(rows):
            for j, y in enumerate(rows):
                product = algebra.multiply(x, y)
                if (algebra.subtract(product, x) if i == j else product) not in inside:
                    return False
        return True

    def check_system(self, algebra, space, rows):
        found = unchanged(self, lifted_system, algebra, space, rows)
        inside = spanned(space, algebra.n, algebra.p)
        self.assertEqual(found.__class__, tuple)
        self.assertEqual(len(found), len(rows))
        for i, x in enumerate(found):
            self.assertIn(algebra.subtract(x, rows[i]), inside)
            for j, y in enumerate(found):
                self.assertEqual(algebra.multiply(x, y), x if i == j else algebra.zero())
        if algebra.subtract(total(algebra, rows), algebra.one) in inside:
            self.assertEqual(total(algebra, found), algebra.one)
        self.assertEqual(lifted_system(algebra, space, tuple(rows)), found)
        return found

    def test_pairs_of_elements(self):
        seen = {"system": 0, "fits": 0, "one order": 0}
        for algebra in list(least_algebras(32).values()) + list(drawn_algebras().values())[:12]:
            for space in nilpotent_ideals(algebra)[:3]:
                inside = spanned(space, algebra.n, algebra.p)
                rows = [x for x in members_of(algebra) if defect(algebra, x) in inside][:12]
                for x in rows:
                    for y in rows[::2] + [algebra.subtract(algebra.one, x)]:
                        if self.is_system(algebra, inside, [x, y]):
                            self.check_system(algebra, space, [x, y])
                            seen["fits"] += 1
                        else:
                            check_refused(self, "system", lifted_system, algebra, space, [x, y])
                            seen["system"] += 1
                            seen["one order"] += (algebra.multiply(x, y) in inside) != (algebra.multiply(y, x) in inside)
        self.assertGreater(min(seen.values()), 30)

    def test_the_way_of_the_document(self):
        for algebra in least_algebras(64).values():
            space = radical(algebra)
            inside = spanned(space, algebra.n, algebra.p)
            rows = [x for x in members_of(algebra) if defect(algebra, x) in inside]
            for x in rows[::3]:
                for y in rows[::5]:
                    if self.is_system(algebra, inside, [x, y]):
                        first = lifted(algebra, space, x)
                        left = algebra.subtract(algebra.one, first)
                        second = lifted(algebra, space, algebra.multiply(algebra.multiply(left, y), left))
                        self.assertEqual(lifted_system(algebra, space, [x, y]), (first, second))

    def test_no_elements_and_one(self):
        for algebra in tiny_algebras().values():
            for space in nilpotent_ideals(algebra):
                self.assertEqual(lifted_system(algebra, space, []), ())
                self.assertEqual(lifted_system(algebra, space, ()), ())
                self.assertEqual(self.check_system(algebra, space, [algebra.one]), (algebra.one,))
                self.assertEqual(self.check_system(algebra, space, [algebra.zero()] * 3), (algebra.zero(),) * 3)
                for x in members_of(algebra)[:12]:
                    if self.is_system(algebra, spanned(space, algebra.n, algebra.p), [x]):
                        self.assertEqual(self.check_system(algebra, space, [x]), (lifted(algebra, space, x),))
                    else:
                        check_refused(self, "system", lifted_system, algebra, space, [x])

    def test_longer_systems(self):
        for m in (2, 3, 4):
            algebra = triangular_algebra(2, m)
            space = radical(algebra)
            diagonal = [k * m - k * (k - 1) // 2 for k in range(m)]
            ones = [algebra.basis(k) for k in diagonal]
            moved = [algebra.add(x, space[(3 * k) % len(space)]) for k, x in enumerate(ones)]
            moved[0] = algebra.add(moved[0], space[-1])
            found = self.check_system(algebra, space, moved)
            self.assertEqual(total(algebra, found), algebra.one)
            self.check_system(algebra, space, moved[1:])
            self.check_system(algebra, space, [moved[-1], algebra.zero(), moved[0]])
            self.assertEqual(lifted_system(algebra, space, ones), tuple(ones))
        for p in PRIMES:
            algebra = numbers(p, 3)
            rows = [algebra.basis(2), algebra.basis(0), algebra.basis(1)]
            self.assertEqual(self.check_system(algebra, (), rows), tuple(rows))
            check_refused(self, "system", lifted_system, algebra, (), [algebra.basis(0), algebra.basis(0)])
            check_refused(self, "system", lifted_system, algebra, (), [algebra.basis(0), algebra.one])

    def test_one_order_alone(self):
        for p in PRIMES:
            algebra = triangular_algebra(p, 2)
            # x y is 0 and y x is not, both idempotent; modulo the radical they are orthogonal.
            x, y = (0, 0, 1), (1, 1, 0)
            self.assertEqual(algebra.multiply(x, y), algebra.zero())
            self.assertNotEqual(algebra.multiply(y, x), algebra.zero())
            check_refused(self, "system", lifted_system, algebra, (), [x, y])
            check_refused(self, "system", lifted_system, algebra, (), [y, x])
            self.check_system(algebra, ((0, 1, 0),), [x, y])
            self.check_system(algebra, ((0, 1, 0),), [y, x])

    def test_wrong_ideals_are_ahead_of_wrong_systems(self):
        for p in PRIMES:
            algebra = triangular_algebra(p, 2)
            for space in (((1, 0, 0),), ((0, 0, 1),), ((0, 1, 0), (0, 0, 1)), ((1, 0, 0), (0, 1, 0), (0, 0, 1))):
                for rows in ([], [algebra.one], [algebra.one, algebra.one], [(0, 1, 0)], [(1, 0, 0), (0, 0, 1)]):
                    check_refused(self, "ideal", lifted_system, algebra, space, rows)


if __name__ == "__main__":
    unittest.main()
