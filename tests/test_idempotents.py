"""Block idempotents, primitive decompositions and Peirce parts: algebraparts.idempotents."""

import unittest

from algebras import (
    DUAL, drawn_algebras, field, least_algebras, members_of, numbers, plain_nilpotent, small_algebras, total,
    truncated,
)
from samples import ODD_VALUES, PRIMES, check_malformed, check_refused, kinds_of, spanned, unchanged
from test_centre import NO_ELEMENTS
from test_ideals import odd_rows
from test_radical import known_cases

from algebraparts import linear
from algebraparts.algebra import Algebra
from algebraparts.build import direct_product, matrix_algebra, tensor_product, triangular_algebra
from algebraparts.groups import cyclic_table, dihedral_table, group_algebra
from algebraparts.idempotents import (
    basic_idempotents, between, block_idempotents, corner, is_connected, is_primitive, kinds, linking, peirce_parts,
    primitive_decomposition,
)
from algebraparts.ideals import is_space


def all_small():
    """The small algebras and the drawn ones."""
    return list(small_algebras().values()) + list(drawn_algebras().values())


def idempotents_of(algebra):
    return [x for x in members_of(algebra) if algebra.multiply(x, x) == x]


def orthogonal(algebra, x, y):
    return algebra.multiply(x, y) == algebra.zero() == algebra.multiply(y, x)


def primitive_among(algebra, rows):
    """Those of the idempotents that are no sum of two orthogonal ones other than 0."""
    others = [e for e in rows if e != algebra.zero()]
    sums = {algebra.add(e, f) for e in others for f in others if orthogonal(algebra, e, f)}
    return [e for e in others if e not in sums]


def is_central(algebra, x):
    return algebra.left(x) == algebra.right(x)


class BlocksTest(unittest.TestCase):

    def test_against_all_central_idempotents(self):
        sizes = set()
        for algebra in all_small():
            central = [x for x in idempotents_of(algebra) if is_central(algebra, x)]
            found = unchanged(self, block_idempotents, algebra)
            self.assertEqual(found, tuple(sorted(primitive_among(algebra, central))), str(algebra))
            self.assertEqual(total(algebra, found), algebra.one)
            self.assertIs(unchanged(self, is_connected, algebra), len(found) == 1)
            sizes.add(len(found))
        self.assertTrue({1, 2, 3} <= sizes)

    def test_known_ones(self):
        for p in PRIMES:
            self.assertEqual(block_idempotents(numbers(p, 3)), ((0, 0, 1), (0, 1, 0), (1, 0, 0)))
            self.assertEqual(block_idempotents(matrix_algebra(p, 2)), ((1, 0, 0, 1),))
            self.assertEqual(block_idempotents(triangular_algebra(p, 2)), ((1, 0, 1),))
            self.assertIs(is_connected(field(p)), True)
            self.assertIs(is_connected(numbers(p)), True)
            self.assertIs(is_connected(numbers(p, 2)), False)
            self.assertIs(is_connected(truncated(p, 4)), True)
            n = {2: 1, 3: 2, 5: 4, 7: 3}[p]
            self.assertEqual(len(block_idempotents(group_algebra(p, cyclic_table(n)))), n)
        self.assertEqual(block_idempotents(group_algebra(2, cyclic_table(3))), ((0, 1, 1), (1, 1, 1)))
        self.assertEqual(len(block_idempotents(group_algebra(2, dihedral_table(3)))), 2)
        self.assertEqual(len(block_idempotents(group_algebra(2, cyclic_table(7)))), 3)
        self.assertEqual(len(block_idempotents(tensor_product(field(2), field(2)))), 2)
        self.assertEqual(len(block_idempotents(numbers(2, 12))), 12)

    def test_the_largest_algebras(self):
        for algebra, _ in known_cases():
            found = block_idempotents(algebra)
            self.assertEqual(list(found), sorted(found))
            self.assertEqual(total(algebra, found), algebra.one)
            for k, e in enumerate(found):
                self.assertTrue(is_central(algebra, e))
                self.assertEqual(algebra.multiply(e, e), e)
                self.assertNotEqual(e, algebra.zero())
                self.assertTrue(all(orthogonal(algebra, e, f) for f in found[:k]))


class CornerTest(unittest.TestCase):

    def test_against_all_elements(self):
        for algebra in all_small():
            for e in idempotents_of(algebra)[:12]:
                found = unchanged(self, corner, algebra, e)
                self.assertTrue(is_space(algebra, found))
                wanted = {algebra.multiply(algebra.multiply(e, x), e) for x in members_of(algebra)}
                self.assertEqual(spanned(found, algebra.n, algebra.p), wanted)
                self.assertEqual(between(algebra, e, e), found)

    def test_of_0_and_1_and_others(self):
        for algebra in small_algebras().values():
            self.assertEqual(corner(algebra, algebra.zero()), ())
            self.assertEqual(corner(algebra, algebra.one), tuple(algebra.basis(i) for i in range(algebra.n)))
            for x in members_of(algebra)[:40]:
                if algebra.multiply(x, x) != x:
                    check_refused(self, "idempotent", corner, algebra, x)
        for p in PRIMES:
            self.assertEqual(corner(triangular_algebra(p, 2), (1, 1, 0)), ((1, 1, 0),))
            self.assertEqual(corner(matrix_algebra(p, 2), (1, 0, 0, 0)), ((1, 0, 0, 0),))

    def test_other_values(self):
        algebra = truncated(3, 2)
        for x in NO_ELEMENTS:
            check_malformed(self, corner, algebra, x)
            check_malformed(self, is_primitive, algebra, x)
            check_malformed(self, between, algebra, x, (1, 0))
            check_malformed(self, between, algebra, (1, 1), x)
            check_malformed(self, linking, algebra, x, (1, 0))
            check_malformed(self, linking, algebra, (1, 0), x)
            # Ahead of the refusal of the other one, that is not primitive.
            check_malformed(self, linking, algebra, x, (1, 1))
            check_malformed(self, linking, algebra, (0, 0), x)

    def test_between(self):
        unlike = 0
        for algebra in least_algebras(64).values():
            rows = members_of(algebra)
            for e in rows[::7] + [algebra.one, rows[-1]]:
                for f in rows[::5] + [algebra.one]:
                    found = unchanged(self, between, algebra, e, f)
                    wanted = {algebra.multiply(algebra.multiply(e, x), f) for x in rows}
                    self.assertTrue(is_space(algebra, found))
                    self.assertEqual(spanned(found, algebra.n, algebra.p), wanted)
                    unlike += found != between(algebra, f, e)
        self.assertGreater(unlike, 20)
        for p in PRIMES:
            algebra = triangular_algebra(p, 2)
            self.assertEqual(between(algebra, (1, 0, 0), (0, 0, 1)), ((0, 1, 0),))
            self.assertEqual(between(algebra, (0, 0, 1), (1, 0, 0)), ())
            self.assertEqual(between(algebra, (0, 0, 0), (1, 0, 1)), ())


class PrimitiveTest(unittest.TestCase):

    def test_against_all_idempotents_below(self):
        answers = {True: 0, False: 0}
        for algebra in all_small():
            primitive = set(primitive_among(algebra, idempotents_of(algebra)))
            for x in members_of(algebra):
                if algebra.multiply(x, x) == x or x in members_of(algebra)[:9]:
                    found = is_primitive(algebra, x)
                    self.assertIs(found, x in primitive, (str(algebra), x))
                    answers[found] += 1
            self.assertIs(unchanged(self, is_primitive, algebra, algebra.zero()), False)
        self.assertGreater(min(answers.values()), 100)

    def test_known_ones(self):
        for p in PRIMES:
            for algebra in (numbers(p), field(p), Algebra(p, DUAL), truncated(p, 4)):
                self.assertIs(is_primitive(algebra, algebra.one), True)
                self.assertIs(is_primitive(algebra, algebra.zero()), False)
            for algebra in (numbers(p, 2), matrix_algebra(p, 2), triangular_algebra(p, 2)):
                self.assertIs(is_primitive(algebra, algebra.one), False)
                self.assertIs(is_primitive(algebra, algebra.basis(0)), True)
            self.assertIs(is_primitive(Algebra(p, DUAL), (0, 1)), False)
            self.assertIs(is_primitive(Algebra(p, DUAL), (1, 1)), False)
        large = tensor_product(matrix_algebra(2, 2), field(2, 3))
        self.assertIs(is_primitive(large, large.one), False)
        self.assertIs(is_primitive(large, large.basis(0)), True)
        self.assertIs(is_primitive(truncated(2, 12), truncated(2, 12).one), True)

    def check_decomposition(self, algebra, parts):
        self.assertEqual(parts.__class__, tuple)
        self.assertEqual(total(algebra, parts), algebra.one)
        for k, e in enumerate(parts):
            self.assertTrue(algebra.is_element(e))
            self.assertEqual(algebra.multiply(e, e), e)
            self.assertNotEqual(e, algebra.zero())
            for f in parts[:k]:
                self.assertTrue(orthogonal(algebra, e, f))

    def test_decompositions(self):
        lengths = set()
        for algebra in all_small():
            primitive = set(primitive_among(algebra, idempotents_of(algebra)))
            found = unchanged(self, primitive_decomposition, algebra)
            self.check_decomposition(algebra, found)
            self.assertTrue(set(found) <= primitive, str(algebra))
            lengths.add(len(found))
        self.assertTrue({1, 2, 3} <= lengths)

    def test_decompositions_of_the_largest_algebras(self):
        for algebra, _ in known_cases():
            found = primitive_decomposition(algebra)
            self.check_decomposition(algebra, found)
            for e in found[:3]:
                self.assertIs(is_primitive(algebra, e), True)

    def test_known_lengths(self):
        for p, top in ((2, 12), (3, 7), (5, 5), (7, 4)):
            for n in range(1, top + 1):
                self.assertEqual(len(primitive_decomposition(numbers(p, n))), n)
                self.assertEqual(primitive_decomposition(truncated(p, n)), (truncated(p, n).one,))
        for p in PRIMES:
            self.assertEqual(len(primitive_decomposition(matrix_algebra(p, 2))), 2)
            self.assertEqual(len(primitive_decomposition(triangular_algebra(p, 2))), 2)
            self.assertEqual(primitive_decomposition(field(p)), (field(p).one,))
        self.assertEqual(len(primitive_decomposition(matrix_algebra(2, 3))), 3)
        self.assertEqual(len(primitive_decomposition(triangular_algebra(2, 4))), 4)
        self.assertEqual(len(primitive_decomposition(group_algebra(2, dihedral_table(3)))), 3)
        self.assertEqual(len(primitive_decomposition(group_algebra(3, dihedral_table(3)))), 2)
        self.assertEqual(len(primitive_decomposition(group_algebra(3, dihedral_table(2)))), 4)
        self.assertEqual(len(primitive_decomposition(tensor_product(matrix_algebra(2, 2), field(2, 3)))), 2)
        self.assertEqual(len(primitive_decomposition(direct_product(matrix_algebra(2, 3), triangular_algebra(2, 2)))), 5)


class LinkingTest(unittest.TestCase):

    def plain_linked(self, algebra, e, f):
        """True if some product of an element of e A f and one of f A e is not nilpotent."""
        there = spanned([algebra.multiply(x, f) for x in algebra.left(e)], algebra.n, algebra.p)
        back = spanned([algebra.multiply(x, e) for x in algebra.left(f)], algebra.n, algebra.p)
        return any(not plain_nilpotent(algebra, algebra.multiply(a, b)) for a in there for b in back)

    def check_pair(self, algebra, e, f, pair):
        self.assertEqual(pair.__class__, tuple)
        a, b = pair
        times = algebra.multiply
        self.assertTrue(algebra.is_element(a) and algebra.is_element(b))
        self.assertEqual(times(a, b), e)
        self.assertEqual(times(b, a), f)
        self.assertEqual(times(times(e, a), f), a)
        self.assertEqual(times(times(f, b), e), b)

    def test_all_pairs(self):
        answers = {True: 0, False: 0}
        for algebra in all_small():
            primitive = primitive_among(algebra, idempotents_of(algebra))
            for e in primitive[:5]:
                for f in primitive[-5:] + [e]:
                    wanted = self.plain_linked(algebra, e, f)
                    found = unchanged(self, linking, algebra, e, f)
                    self.assertIs(found is not None, wanted, (str(algebra), e, f))
                    answers[wanted] += 1
                    if wanted:
                        self.check_pair(algebra, e, f, found)
        self.assertGreater(min(answers.values()), 100)

    def test_known_ones(self):
        for p in PRIMES:
            matrices = matrix_algebra(p, 2)
            self.check_pair(matrices, (1, 0, 0, 0), (0, 0, 0, 1), linking(matrices, (1, 0, 0, 0), (0, 0, 0, 1)))
            self.check_pair(matrices, (1, 1, 0, 0), (0, 0, 0, 1), linking(matrices, (1, 1, 0, 0), (0, 0, 0, 1)))
            triangular = triangular_algebra(p, 2)
            self.assertIsNone(linking(triangular, (1, 0, 0), (0, 0, 1)))
            self.assertIsNone(linking(triangular, (0, 0, 1), (1, 0, 0)))
            self.check_pair(triangular, (1, 0, 0), (1, 1, 0), linking(triangular, (1, 0, 0), (1, 1, 0)))
            self.assertIsNone(linking(numbers(p, 2), (1, 0), (0, 1)))
            dual = Algebra(p, DUAL)
            self.check_pair(dual, dual.one, dual.one, linking(dual, dual.one, dual.one))

    def test_links_in_corners_with_a_radical(self):
        # All products of basis elements of the corners but some are nilpotent.
        for algebra in (tensor_product(matrix_algebra(2, 2), truncated(2, 3)),
                        tensor_product(matrix_algebra(2, 2), field(2, 3)), matrix_algebra(2, 3)):
            parts = primitive_decomposition(algebra)
            for e in parts:
                for f in parts:
                    self.check_pair(algebra, e, f, linking(algebra, e, f))

    def test_not_primitive(self):
        for p in PRIMES:
            algebra = triangular_algebra(p, 2)
            for e in ((0, 0, 0), (1, 0, 1), (0, 1, 0), (1, 1, 1)):
                check_refused(self, "primitive", linking, algebra, e, (1, 0, 0))
                check_refused(self, "primitive", linking, algebra, (1, 0, 0), e)
                check_refused(self, "primitive", linking, algebra, e, e)
                check_refused(self, "primitive", kinds, algebra, [e])
                check_refused(self, "primitive", kinds, algebra, [(1, 0, 0), (0, 0, 1), e])

    def test_kinds(self):
        for algebra in all_small():
            primitive = primitive_among(algebra, idempotents_of(algebra))
            rows = primitive[:4] + primitive[-3:] + primitive[:1]
            wanted = []
            for k, f in enumerate(rows):
                for kind in wanted:
                    if self.plain_linked(algebra, rows[kind[0]], f):
                        kind.append(k)
                        break
                else:
                    wanted.append([k])
            found = unchanged(self, kinds, algebra, rows)
            self.assertEqual(kinds_of(found), kinds_of(tuple(tuple(kind) for kind in wanted)), str(algebra))
            self.assertEqual(kinds(algebra, tuple(rows)), found)

    def test_known_kinds(self):
        for p in PRIMES:
            algebra = numbers(p, 3)
            a, b, c = [algebra.basis(i) for i in range(3)]
            self.assertEqual(kinds(algebra, []), ())
            self.assertEqual(kinds(algebra, ()), ())
            self.assertEqual(kinds(algebra, [c]), ((0,),))
            self.assertEqual(kinds(algebra, [c, a, b]), ((0,), (1,), (2,)))
            self.assertEqual(kinds(algebra, [c, a, c, b, a, c]), ((0, 2, 5), (1, 4), (3,)))
            matrices = matrix_algebra(p, 2)
            self.assertEqual(kinds(matrices, [(0, 0, 0, 1), (1, 0, 0, 0), (1, 1, 0, 0)]), ((0, 1, 2),))
        algebra = direct_product(matrix_algebra(2, 2), triangular_algebra(2, 2))
        rows = [algebra.basis(6), algebra.basis(0), algebra.basis(4), algebra.basis(3)]
        self.assertEqual(kinds(algebra, rows), ((0,), (1, 3), (2,)))

    def test_other_values(self):
        algebra = truncated(3, 2)
        for value in odd_rows() + [value for value in ODD_VALUES if value.__class__ not in (list, tuple)]:
            check_malformed(self, kinds, algebra, value)
            check_malformed(self, peirce_parts, algebra, value)
        # Ahead of the refusal of another one, that is not primitive.
        check_malformed(self, kinds, algebra, [(0, 0), None])
        check_malformed(self, kinds, algebra, [(0, 1), (1, 0, 0)])

    def test_basic_idempotents(self):
        sizes = set()
        for algebra in all_small():
            parts = primitive_decomposition(algebra)
            wanted = tuple(parts[kind[0]] for kind in kinds(algebra, parts))
            found = unchanged(self, basic_idempotents, algebra)
            self.assertEqual(found, wanted)
            sizes.add((len(parts), len(found)))
        self.assertTrue({(1, 1), (2, 2), (2, 1), (3, 2)} <= sizes)
        for p in PRIMES:
            self.assertEqual(len(basic_idempotents(matrix_algebra(p, 2))), 1)
            self.assertEqual(len(basic_idempotents(numbers(p, 3))), 3)
        self.assertEqual(len(basic_idempotents(matrix_algebra(2, 3))), 1)


class PeirceTest(unittest.TestCase):

    def check_parts(self, algebra, rows):
        found = unchanged(self, peirce_parts, algebra, rows)
        self.assertEqual(found.__class__, tuple)
        self.assertEqual(len(found), len(rows))
        for e, line in zip(rows, found):
            self.assertEqual(line, tuple(between(algebra, e, f) for f in rows))
        together = [x for line in found for space in line for x in space]
        self.assertEqual(len(together), algebra.n)
        self.assertEqual(len(linear.span(together, algebra.n, algebra.p)), algebra.n)
        self.assertEqual(peirce_parts(algebra, tuple(rows)), found)
        return found

    def test_decompositions(self):
        for algebra in all_small():
            parts = list(primitive_decomposition(algebra))
            self.check_parts(algebra, parts)
            self.check_parts(algebra, [algebra.one])
            self.check_parts(algebra, [algebra.zero(), *parts[::-1], algebra.zero()])
            for e in idempotents_of(algebra)[:6]:
                self.check_parts(algebra, [e, algebra.subtract(algebra.one, e)])

    def test_known_ones(self):
        for p in PRIMES:
            algebra = triangular_algebra(p, 2)
            a, b, none = (1, 0, 0), (0, 0, 1), (0, 0, 0)
            self.assertEqual(peirce_parts(algebra, [a, b]), (((a,), ((0, 1, 0),)), ((), (b,))))
            self.assertEqual(peirce_parts(algebra, [b, none, a]),
                             (((b,), (), ()), ((), (), ()), (((0, 1, 0),), (), (a,))))

    def test_wrong_systems(self):
        for p in PRIMES:
            algebra = triangular_algebra(p, 2)
            a, b, none, one = (1, 0, 0), (0, 0, 1), (0, 0, 0), (1, 0, 1)
            wrong = [
                [], (), [none], [none, none], [a], [b], [a, b, b], [a, a, b], [one, a], [one, one], [a, b, one],
                # Not idempotent, with the sum 1; orthogonal in one order alone; nilpotent.
                [(1, 1, 1), (0, p - 1, 0)], [(1, 1, 0), b], [b, (1, 1, 0)], [a, b, (0, 1, 0)],
                [(1, 1, 0), (0, p - 1, 1), (0, 1, 0)],
            ]
            for rows in wrong:
                check_refused(self, "system", peirce_parts, algebra, rows)
            # Sums and orders that fit.
            self.check_parts(algebra, [(1, 1, 0), (0, p - 1, 1)])
            # 1 is the sum of p + 1 times 1, and of two elements that are no idempotents.
            pairs = numbers(p, 2)
            check_refused(self, "system", peirce_parts, pairs, [pairs.one] * (p + 1))
            check_refused(self, "system", peirce_parts, pairs, [(1, 0)] * (p + 1) + [(0, 1)])
            if p > 2:
                check_refused(self, "system", peirce_parts, pairs, [(2, 0), (p - 1, 1)])
                check_refused(self, "system", peirce_parts, numbers(p), [(2,), (p - 1,)])


if __name__ == "__main__":
    unittest.main()
