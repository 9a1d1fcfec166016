"""The papers that the program makes: algebraparts.papers."""

import unittest

from algebras import DUAL, drawn_algebras, field, numbers, small_algebras, truncated
from plain_checker import map_faults, primitive_faults, radical_faults
from samples import PRIMES, check_malformed, check_refused, kinds_of, unchanged
from shapes import larger_algebras
from test_radical import drawn_basis_of
from test_structure import type_cases

from algebraparts.algebra import Algebra
from algebraparts.build import (
    changed, direct_product, matrix_algebra, opposite, polynomial_quotient, tensor_product, triangular_algebra,
)
from algebraparts.checker import takes_map, takes_primitive, takes_radical
from algebraparts.groups import cyclic_table, dihedral_table, group_algebra
from algebraparts.idempotents import is_primitive
from algebraparts.papers import map_paper, primitive_paper, radical_paper
from algebraparts.radical import is_semisimple, radical
from algebraparts.structure import wedderburn_type


def all_small():
    with_numbers = [direct_product(Algebra(p, DUAL), numbers(p)) for p in PRIMES]
    return list(small_algebras().values()) + list(drawn_algebras().values()) + with_numbers


def semisimple_pairs():
    """Pairs of isomorphic algebras without a radical, in unlike bases."""
    seed = 0
    for algebra, _ in type_cases():
        if is_semisimple(algebra):
            seed += 1
            yield algebra, changed(algebra, drawn_basis_of(algebra, 50 + seed))
    for p in PRIMES:
        yield numbers(p, 3), polynomial_quotient(p, (0, p - 1, 0, 1)) if p > 2 else numbers(2, 3)
        yield matrix_algebra(p, 2), opposite(matrix_algebra(p, 2))
        yield direct_product(field(p), numbers(p)), direct_product(numbers(p), field(p))
    for p in (2, 3):
        yield tensor_product(field(p), field(p)), direct_product(field(p), field(p))
    # The two irreducible polynomials of the degree 3.
    yield polynomial_quotient(2, (1, 1, 0, 1)), polynomial_quotient(2, (1, 0, 1, 1))
    yield polynomial_quotient(5, (2, 0, 1)), polynomial_quotient(5, (1, 1, 1))
    yield polynomial_quotient(7, (1, 0, 1)), polynomial_quotient(7, (3, 1, 1))
    yield group_algebra(2, cyclic_table(3)), direct_product(field(2), numbers(2))
    yield tensor_product(matrix_algebra(2, 2), field(2, 3)), tensor_product(field(2, 3), matrix_algebra(2, 2))
    one, two = tensor_product(matrix_algebra(2, 2), field(2)), matrix_algebra(2, 2)
    yield direct_product(one, two), direct_product(two, opposite(one))


class RadicalPaperTest(unittest.TestCase):

    def check_paper(self, algebra):
        paper = unchanged(self, radical_paper, algebra)
        self.assertEqual(kinds_of(paper)[0], "tuple")
        self.assertIs(takes_radical(algebra, paper), True)
        self.assertEqual(radical_faults(algebra, paper), [])
        self.assertEqual(kinds_of(paper[1]), kinds_of(radical(algebra)))
        pairs = sorted((len(table), len(f) - 1) for table, _, f in paper[3])
        self.assertEqual(tuple(pairs), wedderburn_type(algebra))
        return paper

    def test_small_algebras(self):
        seen = set()
        for algebra in all_small():
            _, space, _, blocks = self.check_paper(algebra)
            seen.add((algebra.p, space != (), len(blocks) > 1))
        self.assertEqual(seen, {(p, one, two) for p in PRIMES for one in (True, False) for two in (True, False)})

    def test_known_types_up_to_the_greatest_sizes(self):
        seen = set()
        for algebra, wanted in type_cases():
            paper = self.check_paper(algebra)
            self.assertEqual(tuple(sorted((len(table), len(f) - 1) for table, _, f in paper[3])), wanted)
            seen |= set(wanted)
        self.assertTrue({(1, 1), (1, 2), (1, 3), (1, 6), (1, 11), (1, 12), (2, 1), (2, 2), (2, 3), (3, 1)} <= seen)

    def test_larger_algebras(self):
        for seed, algebra in enumerate(larger_algebras()):
            self.check_paper(algebra)
            self.check_paper(changed(algebra, drawn_basis_of(algebra, seed)))


class PrimitivePaperTest(unittest.TestCase):

    def check_paper(self, algebra):
        paper = unchanged(self, primitive_paper, algebra)
        self.assertEqual(kinds_of(paper)[0], "tuple")
        self.assertIs(takes_primitive(algebra, paper), True)
        self.assertEqual(primitive_faults(algebra, paper), [])
        self.assertEqual(len(paper[1]), sum(m for m, _ in wedderburn_type(algebra)))
        return paper

    def test_small_algebras(self):
        seen = set()
        for algebra in all_small():
            paper = self.check_paper(algebra)
            self.assertTrue(all(is_primitive(algebra, part[0]) for part in paper[1]))
            seen.add((algebra.p, len(paper[1]) > 1, any(part[1] != () for part in paper[1])))
        self.assertEqual(seen, {(p, one, two) for p in PRIMES for one in (True, False) for two in (True, False)})

    def test_known_types_up_to_the_greatest_sizes(self):
        degrees = set()
        for algebra, _ in type_cases():
            degrees |= {len(f) - 1 for _, _, _, f in self.check_paper(algebra)[1]}
        self.assertTrue({1, 2, 3, 6, 11, 12} <= degrees)

    def test_larger_algebras(self):
        for seed, algebra in enumerate(larger_algebras()):
            self.check_paper(algebra)
            self.check_paper(changed(algebra, drawn_basis_of(algebra, seed)))


class MapPaperTest(unittest.TestCase):

    def check_paper(self, a, b):
        paper = unchanged(self, map_paper, a, b)
        self.assertEqual(kinds_of(paper)[0], "tuple")
        self.assertIs(takes_map(a, b, paper), True)
        self.assertEqual(map_faults(a, b, paper), [])

    def test_isomorphic_algebras(self):
        types = set()
        for a, b in semisimple_pairs():
            self.check_paper(a, b)
            self.check_paper(b, a)
            types.add(wedderburn_type(a))
        self.assertTrue({((1, 1),), ((1, 2),), ((2, 1),), ((3, 1),), ((2, 3),), ((1, 12),), ((2, 1), (2, 2)),
                         ((1, 1), (1, 2)), ((1, 2), (1, 2)), ((1, 3), (3, 1))} <= types)

    def test_an_algebra_and_itself(self):
        for algebra in all_small():
            if is_semisimple(algebra):
                self.check_paper(algebra, algebra)

    def test_algebras_that_are_not_isomorphic(self):
        cases = {algebra.p: [] for algebra in all_small()}
        for algebra in all_small() + larger_algebras():
            if is_semisimple(algebra):
                cases[algebra.p].append(algebra)
        answers = {"one": 0, "unlike": 0}
        for algebras in cases.values():
            for a in algebras:
                for b in algebras[::2]:
                    if wedderburn_type(a) != wedderburn_type(b):
                        self.assertIsNone(map_paper(a, b))
                        answers["one" if a.n == b.n else "unlike"] += 1
        self.assertGreater(min(answers.values()), 20)
        for p in PRIMES:
            self.assertIsNone(map_paper(field(p), numbers(p, 2)))
            self.assertIsNone(map_paper(numbers(p, 2), field(p)))
            self.assertIsNone(map_paper(matrix_algebra(p, 2), numbers(p, 4)))
            self.assertIsNone(map_paper(numbers(p), numbers(p, 2)))
            self.assertIsNone(map_paper(numbers(p, 4), direct_product(field(p), numbers(p, 2))))

    def test_unlike_p(self):
        for p in PRIMES:
            for q in PRIMES:
                if p != q:
                    # Ahead of a radical, for both.
                    for a in (numbers(p), Algebra(p, DUAL), triangular_algebra(p, 2)):
                        for b in (numbers(q), Algebra(q, DUAL), field(q)):
                            check_malformed(self, map_paper, a, b)

    def test_a_radical(self):
        for p in PRIMES:
            for one in (Algebra(p, DUAL), truncated(p, 3), triangular_algebra(p, 2)):
                for other in (numbers(p), numbers(p, 2), field(p), matrix_algebra(p, 2)):
                    check_refused(self, "radical", map_paper, one, other)
                    check_refused(self, "radical", map_paper, other, one)
                check_refused(self, "radical", map_paper, one, one)
        check_refused(self, "radical", map_paper, group_algebra(2, dihedral_table(3)), numbers(2))


if __name__ == "__main__":
    unittest.main()
