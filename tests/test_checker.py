"""The checker: algebraparts.checker."""

import ast
import signal
import unittest
from itertools import product
from pathlib import Path
from random import Random

from algebras import DUAL, drawn_algebras, field, numbers, small_algebras, truncated
from plain_checker import (
    drawn_change, item_at, map_faults, paths_of, primitive_faults, radical_faults, replaced,
)
from samples import ODD_VALUES, PRIMES, unchanged
from test_radical import drawn_basis_of

from algebraparts.algebra import Algebra
from algebraparts.build import (
    changed, direct_product, matrix_algebra, meant, opposite, polynomial_quotient, tensor_product, triangular_algebra,
)
from algebraparts.checker import takes_map, takes_primitive, takes_radical
from algebraparts.errors import Malformed
from algebraparts.ideals import is_left_ideal, is_right_ideal
from algebraparts.linear import coordinates, span
from algebraparts.modules import regular
from algebraparts.papers import primitive_paper, radical_paper
from algebraparts.structure import structure

PACKAGE = Path(__file__).resolve().parent.parent / "algebraparts"
# The modules of chapters 1 and 2.
FIRST_MODULES = {"errors", "whole", "linear", "algebra", "build", "groups", "paths"}

BIG = 10 ** 3000
WRONG_PIECES = ODD_VALUES + (
    BIG, -BIG, (BIG,), (0, BIG), (BIG, 1), ((BIG, 0),), [(0, 1)], ((0, 1), [0, 1]), (True, False), (0, True),
    ((True,),),
    "radical", ("radical",), {"a": 1}, ((((((),),),),),), [[[[[]]]]], regular(numbers(2)), structure(numbers(2)),
    structure(numbers(2))[0], radical_paper(numbers(2)), primitive_paper(numbers(2)), (Malformed("x"),), (0,) * 5000,
    ((0, 0),) * 5000, (0, 1) * 3000 + (1,),
)


def unlike_sizes(value):
    """A tuple with an item less, and with one more."""
    return [value[:-1], value[1:], value + value[-1:], value + (value,), value + ((),), value + (None,), list(value)]


def translated(algebra, rows, paper):
    """A paper for changed(algebra, rows), made of one for the algebra; spaces are reduced again."""
    def element(x):
        return coordinates(rows, x, algebra.p)

    def space(table):
        return span([element(x) for x in table], algebra.n, algebra.p)
    if paper[0] == "radical":
        _, table, k, blocks = paper
        return ("radical", space(table), k, tuple(
            (tuple(tuple(element(x) for x in row) for row in units), element(c), f) for units, c, f in blocks))
    return ("primitive", tuple((element(e), space(rest), element(c), f) for e, rest, c, f in paper[1]))


def with_block(paper, *blocks):
    """A paper of the radical with other blocks."""
    return paper[:3] + (blocks,)


def unit(n, *places):
    """The row of the length n with 1 at some places."""
    return tuple(int(k in places) for k in range(n))


def table_of_units(m, n, at=0):
    """The matrix units of a matrix algebra, from a place on among n items."""
    return tuple(tuple(unit(n, at + i * m + j) for j in range(m)) for i in range(m))


def too_late(*_):
    raise AssertionError("this takes too long")


class CheckerCase(unittest.TestCase):

    def check_radical(self, algebra, paper, wanted):
        self.assertIs(unchanged(self, takes_radical, algebra, paper), wanted == [])
        self.assertEqual(sorted(set(radical_faults(algebra, paper))), sorted(wanted))

    def check_primitive(self, algebra, paper, wanted):
        self.assertIs(unchanged(self, takes_primitive, algebra, paper), wanted == [])
        self.assertEqual(sorted(set(primitive_faults(algebra, paper))), sorted(wanted))

    def check_map(self, a, b, paper, wanted):
        self.assertIs(unchanged(self, takes_map, a, b, paper), wanted == [])
        self.assertEqual(sorted(set(map_faults(a, b, paper))), sorted(wanted))

    def in_bases(self, algebra, paper, check, wanted):
        """Check a paper, and what it becomes in another basis."""
        check(algebra, paper, wanted)
        rows = drawn_basis_of(algebra, 5)
        check(changed(algebra, rows), translated(algebra, rows, paper), wanted)


class RadicalPaperTest(CheckerCase):

    def test_the_space_is_no_space(self):
        for p in PRIMES:
            algebra = truncated(p, 3)
            paper = radical_paper(algebra)
            self.assertEqual(paper[1], ((0, 1, 0), (0, 0, 1)))
            self.check_radical(algebra, paper, [])
            wrong = [((0, 0, 1), (0, 1, 0)), ((0, 1, 1), (0, 0, 1)), ((0, 1, 0), (0, 1, 1)),
                     ((0, 1, 0), (0, 0, 1), (0, 0, 0)),
                     ((0, 0, 0), (0, 1, 0), (0, 0, 1)), ((0, 1, 0), (0, 1, 0), (0, 0, 1)), [(0, 1, 0), (0, 0, 1)],
                     ((0, 1, 0), [0, 0, 1]), ((0, 1, 0), (0, 0, True)), ((0, 1, 0), (False, 0, 1)),
                     ((0, 1, 0), (0, 0, 1 + p)),
                     ((0, 1, 0), (0, 0, 1 - p)), ((0, 1), (0, 0)), ((0, 1, 0, 0), (0, 0, 1, 0)), 0, None, "", (0, 1, 0)]
            if p > 2:
                wrong += [((0, 2, 0), (0, 0, 1)), ((0, 1, 0), (0, 0, p - 1))]
            for space in wrong:
                self.check_radical(algebra, replaced(paper, (1,), space), ["space"])

    def test_a_space_that_is_no_ideal(self):
        # x^2 is x modulo x^2 - x, so that all but the first sentence hold.
        for p in PRIMES:
            algebra = truncated(p, 3)
            x, other, f = (0, 1, 0), (1, p - 1, 0), (p - 1, 1)
            paper = ("radical", ((0, 1, p - 1),), 3, ((((x,),), x, f), (((other,),), other, f)))
            self.in_bases(algebra, paper, self.check_radical, ["left", "right"])

    def test_a_space_that_is_an_ideal_on_one_side_only(self):
        for p in (2, 3):
            algebra = triangular_algebra(p, 3)
            paper = radical_paper(algebra)
            self.check_radical(algebra, paper, [])
            sides = set()
            for space in ((unit(6, 1),), (unit(6, 4),), (unit(6, 1), unit(6, 2)), (unit(6, 2), unit(6, 4)),
                          (unit(6, 2),)):
                sides.add((is_left_ideal(algebra, space), is_right_ideal(algebra, space)))
                self.assertIs(takes_radical(algebra, replaced(paper, (1,), space)), False)
                faults = radical_faults(algebra, replaced(paper, (1,), space))
                self.assertEqual("left" in faults, not is_left_ideal(algebra, space))
                self.assertEqual("right" in faults, not is_right_ideal(algebra, space))
                for other in (opposite(algebra), algebra):
                    self.assertIs(takes_radical(other, replaced(radical_paper(other), (1,), space)), False)
            self.assertTrue({(True, False), (False, True), (True, True)} <= sides)

    def test_k(self):
        cases = [(truncated(p, 3), 3) for p in PRIMES] + [(triangular_algebra(2, 3), 3), (triangular_algebra(3, 2), 2),
                 (truncated(2, 6), 6), (tensor_product(field(2), Algebra(2, DUAL)), 2)]
        for seed, (algebra, index) in enumerate(cases):
            for algebra in (algebra, changed(algebra, drawn_basis_of(algebra, seed))):
                paper = radical_paper(algebra)
                self.assertEqual(paper[2], index)
                for k in (index, index + 1, index + 2, 40, 10 ** 30, BIG):
                    self.assertIs(unchanged(self, takes_radical, algebra, replaced(paper, (2,), k)), True)
                for k in range(1, index):
                    self.check_radical(algebra, replaced(paper, (2,), k), ["nilpotent"])
                for k in (0, -1, -index, -BIG, True, False, None, "", str(index), (index,), [index], (), algebra):
                    self.check_radical(algebra, replaced(paper, (2,), k), ["k"])

    def test_k_of_a_space_without_elements(self):
        for algebra in (numbers(2), field(3), matrix_algebra(5, 2), numbers(7, 2)):
            paper = radical_paper(algebra)
            self.assertEqual(paper[1:3], ((), 1))
            self.check_radical(algebra, paper, [])
            for k in (2, 3, BIG):
                self.check_radical(algebra, replaced(paper, (2,), k), ["nilpotent"])
            for k in (0, -1, True, None, (1,), "1"):
                self.check_radical(algebra, replaced(paper, (2,), k), ["k"])

    def test_a_space_that_is_not_nilpotent(self):
        for p in PRIMES:
            # The ideal of the second number: its powers never are 0.
            algebra = numbers(p, 2)
            paper = ("radical", ((0, 1),), 5, ((((unit(2, 0),),), unit(2, 0), (p - 1, 1)),))
            for k in (1, 2, 3, 10, BIG):
                self.in_bases(algebra, replaced(paper, (2,), k), self.check_radical, ["nilpotent"])

    def test_the_word_and_the_size(self):
        for algebra in (truncated(2, 3), matrix_algebra(3, 2), numbers(5)):
            paper = radical_paper(algebra)
            for word in ("Radical", "radica", "radical ", "primitive", "map", "", None, 0, True, ("radical",),
                         ["radical"],
                         algebra, Malformed("radical")):
                self.check_radical(algebra, replaced(paper, (0,), word), ["form"])
            for value in unlike_sizes(paper) + [paper[1:], (), ("radical",), (paper,), ("radical", *paper)]:
                self.check_radical(algebra, value, ["form"])

    def test_the_form_of_the_blocks(self):
        algebra = direct_product(matrix_algebra(3, 2), numbers(3))
        paper = radical_paper(algebra)
        self.check_radical(algebra, paper, [])
        self.assertEqual([len(block[0]) for block in paper[3]], [1, 2])
        for path in ((3,), (3, 0), (3, 1), (3, 0, 0), (3, 1, 0), (3, 0, 0, 0), (3, 1, 0, 1), (3, 1, 0, 1, 1), (3, 0, 1),
                     (3, 1, 1)):
            part = item_at(paper, path)
            for wrong in [list(part), None, 0, "", part[0], (part,)] + unlike_sizes(part):
                self.assertIs(takes_radical(algebra, replaced(paper, path, wrong)), False, (path, wrong))
        for wrong in (BIG, -1, 3, True, None, (0,), "0"):
            for path in ((3, 0, 0, 0, 0, 0), (3, 1, 0, 1, 1, 4), (3, 1, 1, 0), (3, 1, 1, 4)):
                self.check_radical(algebra, replaced(paper, path, wrong), ["blocks"])

    def test_a_block_without_units(self):
        # Everything else holds for matrices of the size 0.
        for algebra in (numbers(2), triangular_algebra(3, 2), field(5)):
            paper = radical_paper(algebra)
            empty = ((), algebra.zero(), (0, 1))
            self.check_radical(algebra, with_block(paper, *paper[3], empty), ["blocks"])
            self.check_radical(algebra, with_block(paper, empty, *paper[3]), ["blocks"])

    def test_no_blocks(self):
        for algebra in (numbers(2), triangular_algebra(3, 2), truncated(5, 2)):
            paper = radical_paper(algebra)
            self.assertIs(takes_radical(algebra, with_block(paper)), False)
            self.assertIs(takes_radical(algebra, replaced(with_block(paper), (2,), 20)), False)
            whole = tuple(algebra.basis(i) for i in range(algebra.n))
            self.check_radical(algebra, ("radical", whole, 20, ()), ["nilpotent"])

    def test_f_with_a_divisor(self):
        for p in PRIMES:
            # x^2 - x has the value 0 at the element, and the powers below are a basis.
            paper = ("radical", (), 1, ((((unit(2, 0, 1),),), unit(2, 1), (0, p - 1, 1)),))
            self.in_bases(numbers(p, 2), paper, self.check_radical, ["f"])
        # The square of an irreducible polynomial.
        for p, square, n in ((2, (1, 0, 1, 0, 1), 4), (3, (1, 0, 2, 0, 1), 4)):
            algebra = polynomial_quotient(p, square)
            paper = ("radical", (), 1, ((((algebra.one,),), algebra.basis(1), square),))
            self.check_radical(algebra, paper, ["f"])
        # A cubic one, and one of the degree 5, each with a divisor of the lowest or of the highest degree.
        for p, f in ((2, (1, 0, 0, 1)), (3, (1, 0, 0, 1)), (5, (4, 0, 0, 1)), (2, (1, 0, 0, 0, 1, 1)),
                     (2, (1, 1, 0, 0, 0, 1)),
                     (2, (1, 1, 1, 0, 0, 1, 0, 1))):
            algebra = polynomial_quotient(p, f)
            paper = ("radical", (), 1, ((((algebra.one,),), algebra.basis(1), f),))
            self.check_radical(algebra, paper, ["f"] if radical_faults(algebra, paper) else [])

    def test_all_polynomials_of_low_degrees(self):
        answers = {True: 0, False: 0}
        for p, degrees in ((2, (1, 2, 3, 4, 5, 6)), (3, (1, 2, 3, 4)), (5, (1, 2)), (7, (1, 2))):
            for d in degrees:
                for items in product(range(p), repeat=d):
                    f = (*items, 1)
                    algebra = polynomial_quotient(p, f)
                    c = algebra.basis(1) if d > 1 else (-f[0] % p,)
                    paper = ("radical", (), 1, ((((algebra.one,),), c, f),))
                    wanted = radical_faults(algebra, paper)
                    self.assertIn(wanted, ([], ["f"]))
                    self.assertIs(takes_radical(algebra, paper), wanted == [])
                    answers[wanted == []] += 1
        self.assertGreater(min(answers.values()), 90)

    def test_f_of_the_degree_0(self):
        for p in PRIMES:
            algebra = numbers(p, 2)
            paper = radical_paper(algebra)
            extra = (((algebra.zero(),),), algebra.zero(), (1,))
            self.check_radical(algebra, with_block(paper, *paper[3], extra), ["f"])
            for f in ((), (0,), (1,)):
                self.assertIs(takes_radical(algebra, replaced(paper, (3, 0, 2), f)), False)

    def test_f_with_another_last_item(self):
        for p in (3, 5, 7):
            for algebra in (numbers(p), field(p), truncated(p, 2), triangular_algebra(p, 2)):
                paper = radical_paper(algebra)
                f = paper[3][0][2]
                for a in range(2, p):
                    wrong = tuple(a * b % p for b in f)
                    self.check_radical(algebra, replaced(paper, (3, 0, 2), wrong), ["f"])
        for p in PRIMES:
            algebra = numbers(p)
            paper = radical_paper(algebra)
            f = paper[3][0][2]
            for wrong in ((*f, 0), (f[0], True), (f[0], 1 + p), (f[0] - p, 1), list(f), (*f[:-1], BIG), (BIG, 1),
                          "11", 1, None):
                self.assertIs(takes_radical(algebra, replaced(paper, (3, 0, 2), wrong)), False)

    def test_units_of_one_block(self):
        for p in (3, 5, 7):
            # A multiple of one unit: nothing but its products is wrong.
            algebra = matrix_algebra(p, 2)
            paper = radical_paper(algebra)
            wrong = replaced(paper, (3, 0, 0, 0, 1), algebra.scaled(2, paper[3][0][0][0][1]))
            self.in_bases(algebra, wrong, self.check_radical, ["products"])
        for p in (2, 3):
            algebra = matrix_algebra(p, 2)
            paper = ("radical", (), 1, ((table_of_units(2, 4), algebra.one, (p - 1, 1)),))
            self.in_bases(algebra, paper, self.check_radical, [])
            # The table turned: e_ij e_kl are right for i = j alone.
            turned = tuple(zip(*table_of_units(2, 4)))
            self.in_bases(algebra, replaced(paper, (3, 0, 0), turned), self.check_radical, ["products"])
            # A part of another unit is added to one.
            for path in ((0, 1), (1, 0), (0, 0), (1, 1)):
                row = algebra.add(item_at(table_of_units(2, 4), path), (0, 1, 0, 0))
                wrong = replaced(paper, (3, 0, 0, *path), row)
                self.assertIs(takes_radical(algebra, wrong), False)

    def test_units_of_two_blocks(self):
        # Idempotents with the sum 1 that are not orthogonal: the first place is in p + 1 of them.
        for p, count in ((2, 3), (3, 4)):
            algebra = numbers(p, count)
            rows = [unit(count, 0)] + [unit(count, 0, k) for k in range(1, count)]
            paper = ("radical", (), 1, tuple((((row,),), row, (p - 1, 1)) for row in rows))
            self.in_bases(algebra, paper, self.check_radical, ["products of two blocks"])
            paper = ("radical", (), 1, tuple((((unit(count, k),),), unit(count, k), (p - 1, 1)) for k in range(count)))
            self.in_bases(algebra, paper, self.check_radical, [])

    def test_the_sum_of_the_units(self):
        for p in PRIMES:
            algebra = numbers(p, 2)
            paper = radical_paper(algebra)
            found = radical_faults(algebra, with_block(paper, paper[3][0]))
            self.assertIn("sum", found)
            self.assertIs(takes_radical(algebra, with_block(paper, paper[3][0])), False)
            wrong = with_block(paper, paper[3][0], paper[3][0])
            self.assertIn("sum", radical_faults(algebra, wrong))
            self.assertIs(takes_radical(algebra, wrong), False)

    def test_c_commutes_with_the_units(self):
        # The matrices over a field with 4 elements: c is diag(t, t t).
        algebra = tensor_product(matrix_algebra(2, 2), field(2))
        table = tuple(tuple(unit(8, 2 * (2 * i + j)) for j in range(2)) for i in range(2))
        one, t = unit(8, 0, 6), unit(8, 1, 7)
        square = algebra.multiply(t, t)
        paper = ("radical", (), 1, ((table, t, (1, 1, 1)),))
        self.in_bases(algebra, paper, self.check_radical, [])
        self.assertEqual(algebra.one, one)
        c = algebra.add(algebra.multiply(table[0][0], t), algebra.multiply(table[1][1], square))
        self.in_bases(algebra, replaced(paper, (3, 0, 1), c), self.check_radical, ["commutes"])

    def test_c_times_the_sum_of_the_units_is_c(self):
        # The field and the numbers: 1 has the value 0 at x + x^2, too.
        algebra = direct_product(field(2), numbers(2))
        e, other = (1, 0, 0), (0, 0, 1)
        paper = ("radical", (), 1, ((((e,),), (0, 1, 0), (1, 1, 1)), (((other,),), other, (1, 1))))
        self.in_bases(algebra, paper, self.check_radical, [])
        self.in_bases(algebra, replaced(paper, (3, 0, 1), (0, 1, 1)), self.check_radical, ["c e"])
        # Over p = 3 with x^2 + 2 x + 2: the values of x^2 + 2 x at 1 is 0.
        algebra = direct_product(tensor_product(field(3), numbers(3)), numbers(3))
        paper = radical_paper(algebra)
        self.check_radical(algebra, paper, [])
        c, f = next((x, (a, b, 1)) for x in ((1, 1, 0), (1, 2, 0), (2, 1, 0), (2, 2, 0)) for a in range(3) for b in (2,)
                    if algebra.add(algebra.multiply(x, x), algebra.add(algebra.scaled(b, x), (a, 0, 0))) == (0, 0, 0))
        block, numbers_block = (((unit(3, 0),),), c, f), (((unit(3, 2),),), unit(3, 2), (2, 1))
        self.in_bases(algebra, with_block(paper, block, numbers_block), self.check_radical, [])
        wrong = (((unit(3, 0),),), algebra.add(c, unit(3, 2)), f)
        self.in_bases(algebra, with_block(paper, wrong, numbers_block), self.check_radical, ["c e"])

    def test_the_value_of_f(self):
        for p in (3, 5, 7):
            algebra = field(p)
            paper = radical_paper(algebra)
            for a in range(p):
                for b in range(p):
                    wrong = replaced(paper, (3, 0, 2), (a, b, 1))
                    faults = set(radical_faults(algebra, wrong))
                    self.assertTrue(faults <= {"value", "f"})
                    self.assertEqual(faults == set(), (a, b, 1) == paper[3][0][2])
                    self.assertIs(takes_radical(algebra, wrong), faults == set())
        for p in PRIMES:
            algebra = truncated(p, 2)
            paper = radical_paper(algebra)
            c = paper[3][0][1]
            # Another element of the class, and one of another class.
            self.check_radical(algebra, replaced(paper, (3, 0, 1), algebra.add(c, (0, 1))), [])
            self.check_radical(algebra, replaced(paper, (3, 0, 1), algebra.add(c, (1, 0))), ["value"])

    def test_the_sum_of_the_dimensions(self):
        for p in PRIMES:
            # The numbers alone in a field: independent, but too few.
            algebra = field(p)
            paper = ("radical", (), 1, ((((algebra.one,),), algebra.one, (p - 1, 1)),))
            self.in_bases(algebra, paper, self.check_radical, ["dimension"])
            algebra = matrix_algebra(p, 2)
            paper = ("radical", (), 1, ((((unit(4, 0),),), unit(4, 0), (p - 1, 1)),
                                        (((unit(4, 3),),), unit(4, 3), (p - 1, 1))))
            self.in_bases(algebra, paper, self.check_radical, ["dimension"])

    def test_a_superfluous_block_of_zeros(self):
        for p in PRIMES:
            for algebra in (numbers(p), triangular_algebra(p, 2)):
                paper = radical_paper(algebra)
                for f in ((0, 1), (p - 1, 1)):
                    zeros = (((algebra.zero(),),), algebra.zero(), f)
                    for wrong in (with_block(paper, *paper[3], zeros), with_block(paper, zeros, *paper[3])):
                        self.check_radical(algebra, wrong, ["dimension", "independent"])

    def test_dependent_rows(self):
        for p in PRIMES:
            # A block of zeros beside the numbers: the sizes are right.
            algebra = field(p)
            zeros = (((algebra.zero(),),), algebra.zero(), (0, 1))
            paper = ("radical", (), 1, ((((algebra.one,),), algebra.one, (p - 1, 1)), zeros))
            self.in_bases(algebra, paper, self.check_radical, ["independent"])
            self.check_radical(algebra, with_block(paper, zeros, paper[3][0]), ["independent"])

    def test_two_blocks_in_the_place_of_one_another(self):
        for p in PRIMES:
            for algebra in (numbers(p, 3), direct_product(field(p), numbers(p)), triangular_algebra(p, 2)):
                for algebra in (algebra, changed(algebra, drawn_basis_of(algebra, 8))):
                    paper = radical_paper(algebra)
                    self.check_radical(algebra, with_block(paper, *paper[3][::-1]), [])
                    # The units of one, with the field of the other.
                    one, two = paper[3][:2]
                    if one[1] != two[1]:
                        wrong = with_block(paper, (one[0], *two[1:]), (two[0], *one[1:]), *paper[3][2:])
                        self.assertIs(takes_radical(algebra, wrong), False)
                        self.assertNotEqual(radical_faults(algebra, wrong), [])

    def test_papers_of_other_algebras(self):
        for p in PRIMES:
            for a in (numbers(p, 3), triangular_algebra(p, 2), truncated(p, 3)):
                for b in (numbers(p, 3), triangular_algebra(p, 2), truncated(p, 3), numbers(p, 2)):
                    self.assertIs(takes_radical(b, radical_paper(a)), a == b)


class PrimitivePaperTest(CheckerCase):

    def test_the_word_and_the_size(self):
        for algebra in (truncated(2, 3), matrix_algebra(3, 2), numbers(5)):
            paper = primitive_paper(algebra)
            self.check_primitive(algebra, paper, [])
            for word in ("Primitive", "primitiv", "primitive ", "radical", "map", "", None, 0, True, ("primitive",),
                         algebra):
                self.check_primitive(algebra, replaced(paper, (0,), word), ["form"])
            for value in [list(paper), paper[:1], paper[1:], paper + ((),), (), paper + paper[1:], (paper,)]:
                self.check_primitive(algebra, value, ["form"])
            for value in (list(paper[1]), None, 0, "", "abcd"):
                self.check_primitive(algebra, replaced(paper, (1,), value), ["form"])

    def test_the_form_of_the_parts(self):
        algebra = direct_product(truncated(3, 2), field(3))
        paper = primitive_paper(algebra)
        self.check_primitive(algebra, paper, [])
        for path in ((1, 0), (1, 1), (1, 0, 0), (1, 1, 0), (1, 0, 1), (1, 1, 1), (1, 0, 2), (1, 1, 2), (1, 0, 3),
                     (1, 1, 3)):
            part = item_at(paper, path)
            wrong = [list(part), None, 0, ""] + (unlike_sizes(part) if part else [((),), (0,), [()]])
            for value in wrong:
                self.assertIs(takes_primitive(algebra, replaced(paper, path, value)), False, (path, value))
        places = [path for path in paths_of(paper)[2:] if item_at(paper, path).__class__ is int]
        self.assertGreater(len(places), 20)
        for path in places:
            for wrong in (BIG, -1, 3, 3 + item_at(paper, path), None, (0,), "0", [0], bool(item_at(paper, path))):
                self.assertIs(takes_primitive(algebra, replaced(paper, path, wrong)), False, (path, wrong))

    def test_no_parts(self):
        for algebra in (numbers(2), truncated(3, 2)):
            self.check_primitive(algebra, ("primitive", ()), ["sum"])

    def test_zero(self):
        for p in PRIMES:
            algebra = numbers(p, 2)
            paper = primitive_paper(algebra)
            for f in ((0, 1), (p - 1, 1)):
                extra = (algebra.zero(), (), algebra.zero(), f)
                wrong = ("primitive", (*paper[1], extra))
                self.assertIn("zero", primitive_faults(algebra, wrong))
                self.assertIs(takes_primitive(algebra, wrong), False)

    def test_no_idempotents(self):
        for p in PRIMES:
            algebra = truncated(p, 2)
            paper = primitive_paper(algebra)
            for e in ((0, 1), (1, 1), (0, 0), (p - 1, 1)):
                wrong = replaced(paper, (1, 0, 0), e)
                self.assertIs(takes_primitive(algebra, wrong), False)
                self.assertNotEqual(primitive_faults(algebra, wrong), [])
            two = (((0, 1), (), (0, 1), (0, 1)), ((1, p - 1), (), (1, p - 1), (p - 1, 1)))
            self.assertIs(takes_primitive(algebra, ("primitive", two)), False)
            self.assertIn("idempotent", primitive_faults(algebra, ("primitive", two)))

    def test_idempotents_that_are_not_orthogonal(self):
        # An idempotent p times adds nothing to the sum.
        for algebra, e in ((matrix_algebra(2, 2), unit(4, 0)), (matrix_algebra(2, 2), unit(4, 0, 1)),
                           (triangular_algebra(2, 3), unit(6, 0)), (triangular_algebra(3, 3), unit(6, 5))):
            paper = primitive_paper(algebra)
            part = (e, (), e, (algebra.p - 1, 1))
            wrong = ("primitive", paper[1] + (part,) * algebra.p)
            self.assertLessEqual(len(wrong[1]), algebra.n)
            self.in_bases(algebra, wrong, self.check_primitive, ["orthogonal"])
        # Only one of the two products is not 0: e11 + e12 and e22 are each other's rests but for e12.
        for p in PRIMES:
            algebra = triangular_algebra(p, 2)
            first, last, f = (1, 1, 0), (0, 0, 1), (p - 1, 1)
            wrong = ("primitive", ((first, (), first, f), (last, (), last, f)))
            self.assertEqual([algebra.multiply(first, last), algebra.multiply(last, first)], [(0, 1, 0), (0, 0, 0)])
            self.check_primitive(algebra, wrong, ["orthogonal", "sum"])
            wrong = ("primitive", ((last, (), last, f), (first, (), first, f)))
            self.check_primitive(algebra, wrong, ["orthogonal", "sum"])
            right = ("primitive", ((first, (), first, f), ((0, p - 1, 1), (), (0, p - 1, 1), f)))
            self.in_bases(algebra, right, self.check_primitive, [])

    def test_many_parts(self):
        # The number is the only thing that would make it slow.
        for p in PRIMES:
            algebra = numbers(p)
            part = primitive_paper(algebra)[1][0]
            self.assertIs(takes_primitive(algebra, ("primitive", (part,) * (p + 1))), False)
            self.assertIs(takes_primitive(algebra, ("primitive", (part,) * 20001)), False)

    def test_the_sum(self):
        for p in PRIMES:
            for algebra in (numbers(p, 2), triangular_algebra(p, 2), matrix_algebra(p, 2)):
                paper = primitive_paper(algebra)
                for k in range(len(paper[1])):
                    less = ("primitive", paper[1][:k] + paper[1][k + 1:])
                    self.in_bases(algebra, less, self.check_primitive, ["sum"])
                self.in_bases(algebra, ("primitive", paper[1][::-1]), self.check_primitive, [])

    def test_a_rest_outside_of_the_corner(self):
        for p in PRIMES:
            # Two dual numbers: the first part gets the nilpotent element of the other one.
            algebra = direct_product(Algebra(p, DUAL), Algebra(p, DUAL))
            one, two, f = (1, 0, 0, 0), (0, 0, 1, 0), (p - 1, 1)
            right = ("primitive", ((one, ((0, 1, 0, 0),), one, f), (two, ((0, 0, 0, 1),), two, f)))
            self.in_bases(algebra, right, self.check_primitive, [])
            self.in_bases(algebra, replaced(right, (1, 0, 1), ((0, 0, 0, 1),)), self.check_primitive, ["rest"])

    def test_a_rest_that_is_no_ideal_or_no_space(self):
        for p in PRIMES:
            algebra = truncated(p, 3)
            one, f = algebra.one, (p - 1, 1)
            right = ("primitive", ((one, ((0, 1, 0), (0, 0, 1)), one, f),))
            self.check_primitive(algebra, right, [])
            for rest in (((0, 0, 1), (0, 1, 0)), ((0, 1, 1), (0, 0, 1)), ((0, 1, 0), (0, 0, 1), (0, 0, 0))):
                self.check_primitive(algebra, replaced(right, (1, 0, 1), rest), ["part"])
            self.check_primitive(algebra, replaced(right, (1, 0, 1), ((0, 1, 0),)), ["dimension", "left", "right"])
            self.check_primitive(algebra, replaced(right, (1, 0, 1), ((0, 0, 1),)), ["dimension"])
        # A nilpotent space on one side only: x -> the first row of the matrices of the size 2, without 1.
        for p in (2, 3):
            algebra = matrix_algebra(p, 2)
            one = algebra.one
            for rest in (((0, 1, 0, 0),), (unit(4, 2),)):
                wrong = ("primitive", ((one, rest, one, (p - 1, 1)),))
                self.assertIs(takes_primitive(algebra, wrong), False)
                self.assertTrue({"left", "right"} <= set(primitive_faults(algebra, wrong)))

    def test_a_rest_that_is_not_nilpotent(self):
        for p in PRIMES:
            algebra = numbers(p, 2)
            wrong = ("primitive", ((algebra.one, ((0, 1),), algebra.one, (p - 1, 1)),))
            self.in_bases(algebra, wrong, self.check_primitive, ["nilpotent"])

    def test_c_outside_of_the_corner(self):
        algebra = direct_product(field(2), numbers(2))
        e, other = (1, 0, 0), (0, 0, 1)
        paper = ("primitive", ((e, (), (0, 1, 0), (1, 1, 1)), (other, (), other, (1, 1))))
        self.in_bases(algebra, paper, self.check_primitive, [])
        self.in_bases(algebra, replaced(paper, (1, 0, 2), (0, 1, 1)), self.check_primitive, ["c"])

    def test_f(self):
        for p in PRIMES:
            algebra = numbers(p, 2)
            wrong = ("primitive", ((algebra.one, (), (0, 1), (0, p - 1, 1)),))
            self.in_bases(algebra, wrong, self.check_primitive, ["f"])
            algebra = field(p)
            paper = primitive_paper(algebra)
            f = paper[1][0][3]
            for a in range(2, p):
                self.check_primitive(algebra, replaced(paper, (1, 0, 3), tuple(a * b % p for b in f)), ["f"])
            for wrong in ((), (1,), (*f, 0), f[1:], (0, *f), f[:1] + (True,) + f[2:], list(f), (*f[:-1], BIG)):
                self.assertIs(takes_primitive(algebra, replaced(paper, (1, 0, 3), wrong)), False)

    def test_the_value_of_f(self):
        for p in PRIMES:
            algebra = field(p)
            paper = primitive_paper(algebra)
            for x in ((a, b) for a in range(p) for b in range(p)):
                wrong = replaced(paper, (1, 0, 2), x)
                faults = primitive_faults(algebra, wrong)
                self.assertIn(faults, ([], ["value"]))
                self.assertIs(takes_primitive(algebra, wrong), faults == [])
            algebra = truncated(p, 2)
            paper = primitive_paper(algebra)
            c = paper[1][0][2]
            self.check_primitive(algebra, replaced(paper, (1, 0, 2), algebra.add(c, (0, 1))), [])
            self.check_primitive(algebra, replaced(paper, (1, 0, 2), algebra.add(c, (1, 0))), ["value"])

    def test_the_dimension(self):
        for p in PRIMES:
            algebra = field(p)
            wrong = ("primitive", ((algebra.one, (), algebra.one, (p - 1, 1)),))
            self.in_bases(algebra, wrong, self.check_primitive, ["dimension"])
            algebra = Algebra(p, DUAL)
            wrong = ("primitive", ((algebra.one, (), algebra.one, (p - 1, 1)),))
            self.in_bases(algebra, wrong, self.check_primitive, ["dimension"])
            # The idempotent 1 of several parts.
            algebra = numbers(p, 2)
            wrong = ("primitive", ((algebra.one, (), algebra.one, (p - 1, 1)),))
            self.in_bases(algebra, wrong, self.check_primitive, ["dimension"])


class MapPaperTest(CheckerCase):

    def test_the_word_and_the_form(self):
        for a in (numbers(2, 2), matrix_algebra(3, 2), field(5), truncated(7, 2)):
            paper = ("map", tuple(a.basis(i) for i in range(a.n)))
            self.check_map(a, a, paper, [])
            for word in ("Map", "ma", "maps", "", "radical", None, 0, True, ("map",), ["map"], a):
                self.check_map(a, a, replaced(paper, (0,), word), ["form"])
            for value in (list(paper), paper[:1], paper[1:], paper + ((),), (), paper[1], ("map", *paper[1])):
                self.check_map(a, a, value, ["form"])
            for value in unlike_sizes(paper[1]) + [None, 0, "", (), ((),) * a.n]:
                self.check_map(a, a, replaced(paper, (1,), value), ["form"])
            for path in paths_of(paper)[3:]:
                part = item_at(paper, path)
                for wrong in (BIG, -1, a.p, None, "0", [0], (), [part], bool(part)):
                    self.check_map(a, a, replaced(paper, path, wrong), ["form"])

    def test_unlike_p(self):
        for p in PRIMES:
            for q in PRIMES:
                if p != q:
                    for a, b in ((numbers(p), numbers(q)), (numbers(p, 2), numbers(q, 2)),
                                 (Algebra(p, DUAL), Algebra(q, DUAL))):
                        images = tuple(b.basis(i) for i in range(b.n))
                        self.check_map(a, b, ("map", images), ["p"])

    def test_dependent_images(self):
        for p in PRIMES:
            dual = Algebra(p, DUAL)
            self.check_map(dual, dual, ("map", ((1, 0), (0, 0))), ["one-to-one", "onto"])
            self.check_map(dual, dual, ("map", ((1, 0), (0, p - 1))), [])
            pairs = numbers(p, 2)
            self.check_map(pairs, pairs, ("map", ((1, 1), (0, 0))), ["one-to-one", "onto"])

    def test_unlike_dimensions(self):
        for p in PRIMES:
            dual = Algebra(p, DUAL)
            # One of them is one-to-one, the other is onto.
            self.check_map(numbers(p), dual, ("map", ((1, 0),)), ["onto"])
            self.check_map(dual, numbers(p), ("map", ((1,), (0,))), ["one-to-one"])

    def test_products_are_kept_but_not_the_1(self):
        for p in PRIMES:
            pairs = numbers(p, 2)
            self.check_map(pairs, pairs, ("map", ((1, 0), (0, 0))), ["one", "one-to-one", "onto"])
            self.check_map(numbers(p), numbers(p), ("map", ((0,),)), ["one", "one-to-one", "onto"])
            self.check_map(numbers(p), pairs, ("map", ((1, 0),)), ["one", "onto"])

    def test_the_1_is_kept_but_not_products(self):
        for p in PRIMES:
            algebra = truncated(p, 3)
            self.check_map(algebra, algebra, ("map", ((1, 0, 0), (0, 0, 1), (0, 1, 0))), ["products"])
            self.check_map(field(p), numbers(p, 2), ("map", ((1, 1), (0, 1))), ["products"])
            # The one kept, and the products in the other order.
            algebra = matrix_algebra(p, 2)
            turned = ("map", ((1, 0, 0, 0), (0, 0, 1, 0), (0, 1, 0, 0), (0, 0, 0, 1)))
            self.check_map(algebra, algebra, turned, ["products"])
            self.check_map(algebra, opposite(algebra), turned, [])

    def test_all_images_of_small_algebras(self):
        answers = {True: 0, False: 0}
        for p, pairs in ((2, [(numbers(2, 2), numbers(2, 2)), (Algebra(2, DUAL), field(2)), (field(2), field(2)),
                              (Algebra(2, DUAL), Algebra(2, DUAL)), (numbers(2, 2), Algebra(2, DUAL))]),
                         (3, [(numbers(3, 2), numbers(3, 2)), (field(3), field(3)),
                              (Algebra(3, DUAL), Algebra(3, DUAL))])):
            rows = [(a, b) for a in range(p) for b in range(p)]
            for a, b in pairs:
                for one in rows:
                    for two in rows:
                        paper = ("map", (one, two))
                        faults = map_faults(a, b, paper)
                        self.assertIs(takes_map(a, b, paper), faults == [])
                        answers[faults == []] += 1
        self.assertEqual(answers[True], 2 + 2 + 1 + 2 + 2 + 2)

    def test_the_map_of_a_change_of_the_basis(self):
        for seed, algebra in enumerate(list(drawn_algebras().values()) + [truncated(7, 4), triangular_algebra(5, 2)]):
            rows = drawn_basis_of(algebra, seed)
            other = changed(algebra, rows)
            images = tuple(meant(algebra, rows, other.basis(i)) for i in range(algebra.n))
            self.check_map(other, algebra, ("map", images), [])
            back = tuple(coordinates(rows, algebra.basis(i), algebra.p) for i in range(algebra.n))
            self.check_map(algebra, other, ("map", back), [])


class DrawnPapersTest(CheckerCase):

    def test_drawn_changes(self):
        random = Random(5)
        answers = {True: 0, False: 0}
        for algebra in list(small_algebras().values()) + list(drawn_algebras().values()):
            for make, takes, faults in ((radical_paper, takes_radical, radical_faults),
                                        (primitive_paper, takes_primitive, primitive_faults)):
                paper = make(algebra)
                for _ in range(12):
                    other = drawn_change(random, algebra, paper)
                    answer = takes(algebra, other)
                    self.assertIs(answer, faults(algebra, other) == [], other)
                    answers[answer] += 1
        self.assertGreater(min(answers.values()), 100)


class EveryValueTest(unittest.TestCase):

    def test_values_that_are_no_papers(self):
        algebras = (numbers(2), numbers(3, 2), triangular_algebra(2, 2), field(5), truncated(7, 2))
        for algebra in algebras:
            for value in WRONG_PIECES:
                wanted = algebra == numbers(2)
                self.assertIs(takes_radical(algebra, value), wanted and value == radical_paper(numbers(2)))
                self.assertIs(takes_primitive(algebra, value), wanted and value == primitive_paper(numbers(2)))
                self.assertIs(takes_map(algebra, algebra, value), False)
                for size in range(1, 5):
                    for word in ("radical", "primitive", "map"):
                        wrong = (word,) + (value,) * size
                        self.assertIs(takes_radical(algebra, wrong), False)
                        self.assertIs(takes_map(algebra, algebra, wrong), False)
                        self.assertIs(takes_primitive(algebra, wrong), False)

    def test_values_in_each_place(self):
        for algebra in (direct_product(truncated(2, 2), field(2)), direct_product(truncated(3, 2), numbers(3)),
                        matrix_algebra(2, 2)):
            identity = ("map", tuple(algebra.basis(i) for i in range(algebra.n)))
            for paper, takes, faults in ((radical_paper(algebra), takes_radical, radical_faults),
                                         (primitive_paper(algebra), takes_primitive, primitive_faults)):
                self.assertIs(takes(algebra, paper), True)
                for path in paths_of(paper):
                    for value in WRONG_PIECES:
                        wrong = replaced(paper, path, value)
                        self.assertIs(takes(algebra, wrong), faults(algebra, wrong) == [], (path, value))
            for path in paths_of(identity):
                for value in WRONG_PIECES:
                    wrong = replaced(identity, path, value)
                    self.assertIs(takes_map(algebra, algebra, wrong), map_faults(algebra, algebra, wrong) == [])

    def test_large_integers(self):
        for algebra in (truncated(2, 3), matrix_algebra(2, 2), numbers(7, 2)):
            for paper, takes in ((radical_paper(algebra), takes_radical), (primitive_paper(algebra), takes_primitive)):
                for path in paths_of(paper):
                    if item_at(paper, path).__class__ is int:
                        large = paper[0] == "radical" and path == (2,) and paper[1] != ()
                        self.assertIs(takes(algebra, replaced(paper, path, BIG)), large)
                        self.assertIs(takes(algebra, replaced(paper, path, -BIG)), False)

    def setUp(self):
        signal.signal(signal.SIGALRM, too_late)
        signal.alarm(120)

    def tearDown(self):
        signal.alarm(0)

    def test_long_polynomials(self):
        # There are too many polynomials to be looked through; over p = 2, 1 + x + x^60 has no divisor.
        for p in PRIMES:
            algebra = numbers(p)
            for f in ((1, 0, 1), (1,) + (0,) * 4999 + (1,), (1, 1) + (0,) * 58 + (1,), (2, 2, 1) + (0,) * 57 + (1,)):
                paper = ("radical", (), 1, (((((1,),),), (1,), f),))
                self.assertIs(takes_radical(algebra, paper), False)
                self.assertIs(takes_primitive(algebra, ("primitive", (((1,), (), (1,), f),))), False)

    def test_many_blocks(self):
        algebra = numbers(2)
        paper = radical_paper(algebra)
        self.assertIs(takes_radical(algebra, with_block(paper, *(paper[3] * 20000))), False)
        self.assertIs(takes_radical(algebra, replaced(paper, (3, 0, 0), (((1,),) * 300,) * 300)), False)


class UsesTest(unittest.TestCase):

    def used(self, name):
        """The names of the modules that a module imports from."""
        tree = ast.parse((PACKAGE / (name + ".py")).read_text())
        return {node.module.rpartition(".")[2] for node in ast.walk(tree) if isinstance(node, ast.ImportFrom)}

    def test_the_checker_uses_nothing_of_chapters_3_to_7(self):
        found = ["checker"]
        for name in found:
            found.extend(sorted(self.used(name) - set(found)))
        self.assertTrue(set(found[1:]) <= FIRST_MODULES, found)


if __name__ == "__main__":
    unittest.main()
