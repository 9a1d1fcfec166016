"""Ideals and quotients: algebraparts.ideals."""

import unittest

from algebras import (
    DUAL, closing, divisors_of, drawn_lists, is_closed, least_algebras, members_of, numbers, small_algebras, some_ideals,
    some_spaces, tiny_algebras, truncated,
)
from samples import ODD_VALUES, PRIMES, all_rows, check_malformed, check_refused, kinds_of, spanned, unchanged

from algebraparts import linear
from algebraparts.algebra import Algebra
from algebraparts.build import direct_product, matrix_algebra, opposite, triangular_algebra
from algebraparts.ideals import (
    ideal, image_space, is_ideal, is_left_ideal, is_right_ideal, is_space, left_annihilator, left_ideal, lifted_space,
    nilpotency, power_of, products, quotient, quotient_image, quotient_lift, right_annihilator, right_ideal, span,
)

# Values that are no lists or tuples of elements of an algebra of the dimension 2 over p = 3.
NO_ROWS = (
    [(0, 3)], [(0, -1)], [(0, 1, 0)], [(0,)], [[0, 1]], ([0, 1],), [(0, True)], [(False, 0)], [None], [(0, 1), None],
    [(0, 1), (1,)], (0, 1), [0, 1], {(0, 1): True}, {(0, 1)}, "01", ["01"], [("0", "1")], [((0, 1), (1, 0))],
)
# Values that are no spaces there.
NO_SPACES = NO_ROWS + (
    [], [(0, 1)], [(1, 0), (0, 1)], ((0, 0),), ((0, 2),), ((2, 0),), ((2, 1),), ((0, 1), (1, 0)), ((1, 1), (0, 1)),
    ((1, 0), (1, 0)), ((1, 0), (0, 0)), ((1, 0), (0, 1), (0, 0)), ((1, 0), (0, 2)), ((1, 0), (0, True)),
    ((True, 0),), ((1, 0), (0, 1), (0, 1)), ((0, 1), (0, 1)), ((1, 0), [0, 1]), ([1, 0], [0, 1]), ((1, 0), None),
)


def odd_spaces():
    """Values of all kinds that are no spaces of an algebra of the dimension 2 over p = 3."""
    return [value for value in NO_SPACES + ODD_VALUES if value.__class__ is not tuple or value != ()]


def odd_rows():
    """Values of all kinds that are no lists or tuples of elements there."""
    return [value for value in NO_ROWS + ODD_VALUES
            if value.__class__ not in (tuple, list) or value not in ((), [])]


class SpacesTest(unittest.TestCase):

    def test_span(self):
        for name, algebra in small_algebras().items():
            for rows in drawn_lists(algebra, 1):
                found = unchanged(self, span, algebra, rows)
                self.assertEqual(spanned(found, algebra.n, algebra.p), spanned(rows, algebra.n, algebra.p), name)
                self.assertEqual(found, linear.span(rows, algebra.n, algebra.p))
                self.assertEqual(span(algebra, tuple(rows)), found)
                self.assertIs(is_space(algebra, found), True)
        self.assertEqual(span(triangular_algebra(3, 2), [(2, 1, 0), (1, 1, 1)]), ((1, 0, 2), (0, 1, 2)))

    def test_is_space(self):
        # All tables of at most two rows over p = 2, and of one row over the others.
        for p, n in ((2, 2), (2, 3), (3, 2), (5, 2), (7, 1)):
            algebra = truncated(p, n)
            rows = all_rows(n, p)
            for table in [()] + [(x,) for x in rows] + [(x, y) for x in rows[:60] for y in rows[:60]]:
                wanted = table == linear.span(table, n, p)
                self.assertIs(unchanged(self, is_space, algebra, table), wanted, table)

    def test_is_space_for_every_value(self):
        algebra = truncated(3, 2)
        for value in odd_spaces():
            self.assertIs(is_space(algebra, value), False, value)
        for value in ((), ((1, 0),), ((1, 2),), ((0, 1),), ((1, 0), (0, 1))):
            self.assertIs(is_space(algebra, value), True, value)
        self.assertIs(is_space(truncated(2, 2), ((1, 2),)), False)
        self.assertIs(is_space(truncated(3, 3), ((1, 2),)), False)
        self.assertIs(is_space(algebra, algebra), False)
        self.assertIs(is_space(algebra, ((0, 0),) * 100000), False)

    def test_span_of_other_values(self):
        algebra = truncated(3, 2)
        for value in odd_rows():
            check_malformed(self, span, algebra, value)


class GeneratedTest(unittest.TestCase):

    def test_against_closing_under_products(self):
        for name, algebra in least_algebras(49).items():
            for rows in drawn_lists(algebra, 2):
                for function, sides in ((left_ideal, "l"), (right_ideal, "r"), (ideal, "lr")):
                    found = unchanged(self, function, algebra, rows)
                    self.assertTrue(is_space(algebra, found))
                    wanted = closing(algebra, rows, sides)
                    self.assertEqual(spanned(found, algebra.n, algebra.p), wanted, (name, rows, sides))
                    self.assertEqual(function(algebra, tuple(rows)), found)

    def test_special_rows(self):
        for algebra in small_algebras().values():
            whole = tuple(algebra.basis(i) for i in range(algebra.n))
            for function in (left_ideal, right_ideal, ideal):
                self.assertEqual(function(algebra, []), ())
                self.assertEqual(function(algebra, ()), ())
                self.assertEqual(function(algebra, [algebra.zero()]), ())
                self.assertEqual(function(algebra, [algebra.one]), whole)
                self.assertEqual(function(algebra, members_of(algebra)), whole)

    def test_sides_are_unlike(self):
        for p in PRIMES:
            algebra = matrix_algebra(p, 2)
            first = algebra.basis(0)
            self.assertEqual(left_ideal(algebra, [first]), ((1, 0, 0, 0), (0, 0, 1, 0)))
            self.assertEqual(right_ideal(algebra, [first]), ((1, 0, 0, 0), (0, 1, 0, 0)))
            self.assertEqual(len(ideal(algebra, [first])), 4)
            self.assertEqual(left_ideal(opposite(algebra), [first]), right_ideal(algebra, [first]))
            algebra = triangular_algebra(p, 2)
            self.assertEqual(left_ideal(algebra, [(1, 0, 0)]), ((1, 0, 0),))
            self.assertEqual(right_ideal(algebra, [(1, 0, 0)]), ((1, 0, 0), (0, 1, 0)))
            self.assertEqual(ideal(algebra, [(0, 0, 2 % p or 1)]), ((0, 1, 0), (0, 0, 1)))

    def test_other_values(self):
        algebra = truncated(3, 2)
        for value in odd_rows():
            for function in (left_ideal, right_ideal, ideal):
                check_malformed(self, function, algebra, value)


class IsIdealTest(unittest.TestCase):

    def test_against_all_products(self):
        seen = {}
        for name, algebra in least_algebras(81).items():
            for space in some_spaces(algebra) + some_ideals(algebra):
                inside = spanned(space, algebra.n, algebra.p)
                answers = []
                for function, sides in ((is_left_ideal, "l"), (is_right_ideal, "r"), (is_ideal, "lr")):
                    answers.append(unchanged(self, function, algebra, space))
                    self.assertIs(answers[-1], is_closed(algebra, inside, sides), (name, space, sides))
                seen[tuple(answers)] = seen.get(tuple(answers), 0) + 1
        self.assertEqual(sorted(seen), [(False, False, False), (False, True, False), (True, False, False),
                                        (True, True, True)])
        self.assertGreater(min(seen.values()), 5)

    def test_left_ideals_that_are_no_right_ideals(self):
        for p in PRIMES:
            algebra = triangular_algebra(p, 2)
            left, right = ((1, 0, 0),), ((0, 0, 1),)
            self.assertEqual([f(algebra, left) for f in (is_left_ideal, is_right_ideal, is_ideal)], [True, False, False])
            self.assertEqual([f(algebra, right) for f in (is_left_ideal, is_right_ideal, is_ideal)],
                             [False, True, False])

    def test_for_every_value(self):
        algebra = truncated(3, 2)
        for function in (is_left_ideal, is_right_ideal, is_ideal):
            for value in odd_spaces():
                self.assertIs(function(algebra, value), False, value)
            for value in ((), ((0, 1),), ((1, 0), (0, 1))):
                self.assertIs(function(algebra, value), True)
            self.assertIs(function(algebra, ((1, 0),)), False)
            self.assertIs(function(algebra, [(0, 1)]), False)


class PowersTest(unittest.TestCase):

    def all_products(self, algebra, one, two):
        """The span of all products, of all elements of two spaces."""
        ones = spanned(one, algebra.n, algebra.p)
        twos = spanned(two, algebra.n, algebra.p)
        return linear.span([algebra.multiply(x, y) for x in ones for y in twos], algebra.n, algebra.p)

    def test_products(self):
        for name, algebra in least_algebras(32).items():
            spaces = some_spaces(algebra)
            for one in spaces:
                for two in spaces[::3] + [one]:
                    found = unchanged(self, products, algebra, one, two)
                    self.assertEqual(found, self.all_products(algebra, one, two), (name, one, two))

    def test_products_of_lists(self):
        for algebra in least_algebras(32).values():
            lists = drawn_lists(algebra, 5)
            for one, two in zip(lists, lists[3:] + lists[:3]):
                wanted = linear.span([algebra.multiply(x, y) for x in one for y in two], algebra.n, algebra.p)
                self.assertEqual(unchanged(self, products, algebra, one, two), wanted)
                self.assertEqual(products(algebra, tuple(one), two), wanted)
                self.assertEqual(products(algebra, one, tuple(two)), wanted)
        algebra = truncated(3, 2)
        for value in odd_rows():
            check_malformed(self, products, algebra, value, [])
            check_malformed(self, products, algebra, (), value)
            check_malformed(self, products, algebra, value, value)
        many = members_of(truncated(2, 12))
        self.assertEqual(len(products(truncated(2, 12), many, many)), 12)

    def test_the_order_of_products(self):
        for p in PRIMES:
            algebra = triangular_algebra(p, 2)
            self.assertEqual(products(algebra, ((1, 0, 0),), ((0, 1, 0),)), ((0, 1, 0),))
            self.assertEqual(products(algebra, ((0, 1, 0),), ((1, 0, 0),)), ())

    def test_powers(self):
        for name, algebra in least_algebras(64).items():
            for space in some_spaces(algebra):
                wanted = space
                for k in range(1, 10):
                    self.assertEqual(unchanged(self, power_of, algebra, space, k), wanted, (name, space, k))
                    wanted = products(algebra, wanted, space)

    def test_powers_that_do_not_descend(self):
        for p in PRIMES:
            pairs = numbers(p, 2)
            line = ((1, p - 1),)
            for k in (1, 3, 10 ** 40 + 1):
                self.assertEqual(power_of(pairs, line, k), line)
            self.assertEqual(power_of(pairs, line, 2), ((1, 1),))
            whole = ((1, 0), (0, 1))
            self.assertEqual(power_of(pairs, whole, 10 ** 40), whole)
            self.assertEqual(power_of(pairs, ((1, 0),), 10 ** 40), ((1, 0),))
            self.assertEqual(power_of(pairs, (), 1), ())
            self.assertEqual(power_of(pairs, (), 10 ** 40), ())
        # The field with four elements: the powers of an element of the order 3.
        field = Algebra(2, (((1, 0), (0, 1)), ((0, 1), (1, 1))))
        lines = [((0, 1),), ((1, 1),), ((1, 0),)]
        for k in range(1, 13):
            self.assertEqual(power_of(field, ((0, 1),), k), lines[(k - 1) % 3])
        self.assertEqual(power_of(field, ((0, 1),), 3 * 10 ** 30 + 2), lines[1])

    def test_wrong_exponents(self):
        algebra = truncated(3, 2)
        for k in (0, -1, -10 ** 30, True, False, None, "1", "", (1,), [1], (), algebra):
            check_malformed(self, power_of, algebra, ((0, 1),), k)
        for value in odd_spaces():
            check_malformed(self, power_of, algebra, value, 1)
            check_malformed(self, power_of, algebra, value, 0)
            check_malformed(self, nilpotency, algebra, value)

    def test_nilpotency(self):
        seen = {}
        for name, algebra in small_algebras().items():
            for space in some_spaces(algebra):
                powers = [space]
                while len(powers) < 2 * algebra.n + 3:
                    powers.append(products(algebra, powers[-1], space))
                wanted = powers.index(()) + 1 if () in powers else None
                self.assertEqual(unchanged(self, nilpotency, algebra, space), wanted, (name, space))
                seen[wanted] = seen.get(wanted, 0) + 1
        self.assertTrue({None, 1, 2, 3, 4} <= set(seen))

    def test_nilpotency_of_known_spaces(self):
        for p in PRIMES:
            self.assertEqual(nilpotency(Algebra(p, DUAL), ()), 1)
            self.assertEqual(nilpotency(Algebra(p, DUAL), ((0, 1),)), 2)
            self.assertIsNone(nilpotency(Algebra(p, DUAL), ((1, 0),)))
            self.assertIsNone(nilpotency(Algebra(p, DUAL), ((1, 1),)))
            self.assertEqual(nilpotency(truncated(p, 4), ((0, 1, 0, 0),)), 4)
            self.assertEqual(nilpotency(truncated(p, 4), ((0, 0, 1, 0), (0, 0, 0, 1))), 2)
            self.assertIsNone(nilpotency(matrix_algebra(p, 2), ((0, 1, 0, 0), (0, 0, 1, 0))))
            self.assertEqual(nilpotency(matrix_algebra(p, 2), ((0, 1, 0, 0),)), 2)
        for n in range(1, 13):
            basis = tuple(truncated(2, n).basis(i) for i in range(1, n))
            self.assertEqual(nilpotency(truncated(2, n), basis), n)


class AnnihilatorsTest(unittest.TestCase):

    def test_against_all_elements(self):
        unlike = 0
        for name, algebra in least_algebras(128).items():
            zero = algebra.zero()
            for space in some_spaces(algebra):
                inside = spanned(space, algebra.n, algebra.p) if algebra.n < 6 else set(space)
                left = unchanged(self, left_annihilator, algebra, space)
                right = unchanged(self, right_annihilator, algebra, space)
                for found, on_left in ((left, True), (right, False)):
                    wanted = {x for x in members_of(algebra) if all(
                        (algebra.multiply(x, u) if on_left else algebra.multiply(u, x)) == zero for u in inside)}
                    self.assertTrue(is_space(algebra, found))
                    self.assertEqual(spanned(found, algebra.n, algebra.p), wanted, (name, space, on_left))
                self.assertTrue(is_left_ideal(algebra, left))
                self.assertTrue(is_right_ideal(algebra, right))
                unlike += left != right
        self.assertGreater(unlike, 20)

    def test_of_0_and_of_all(self):
        for algebra in small_algebras().values():
            whole = tuple(algebra.basis(i) for i in range(algebra.n))
            for function in (left_annihilator, right_annihilator):
                self.assertEqual(function(algebra, ()), whole)
                self.assertEqual(function(algebra, whole), ())
                self.assertEqual(function(algebra, span(algebra, [algebra.one])), ())

    def test_sides(self):
        for p in PRIMES:
            algebra = triangular_algebra(p, 2)
            self.assertEqual(left_annihilator(algebra, ((0, 1, 0),)), ((0, 1, 0), (0, 0, 1)))
            self.assertEqual(right_annihilator(algebra, ((0, 1, 0),)), ((1, 0, 0), (0, 1, 0)))

    def test_other_values(self):
        algebra = truncated(3, 2)
        for value in odd_spaces():
            check_malformed(self, left_annihilator, algebra, value)
            check_malformed(self, right_annihilator, algebra, value)


class QuotientTest(unittest.TestCase):

    def free(self, algebra, space):
        pivots = [row.index(1) for row in space]
        return [k for k in range(algebra.n) if k not in pivots]

    def test_classes(self):
        for name, algebra, space in divisors_of(49):
            inside = spanned(space, algebra.n, algebra.p)
            free = self.free(algebra, space)
            found = unchanged(self, quotient, algebra, space)
            self.assertIs(found.__class__, Algebra)
            self.assertEqual((found.p, found.n), (algebra.p, len(free)))
            for x in members_of(algebra):
                plain = [y for y in (algebra.subtract(x, u) for u in inside)
                         if all(y[k] == 0 for k in range(algebra.n) if k not in free)]
                self.assertEqual(len(plain), 1)
                image = unchanged(self, quotient_image, algebra, space, x)
                self.assertEqual(image, tuple(plain[0][k] for k in free), (name, space, x))
                self.assertTrue(found.is_element(image))
                self.assertEqual(unchanged(self, quotient_lift, algebra, space, image), plain[0])
                self.assertEqual(image == found.zero(), x in inside)

    def test_products_and_the_unit_element(self):
        for name, algebra, space in divisors_of(49):
            found = quotient(algebra, space)
            self.assertEqual(found.one, quotient_image(algebra, space, algebra.one))
            rows = members_of(algebra)
            images = {x: quotient_image(algebra, space, x) for x in rows}
            for x in rows[::5] + [algebra.basis(i) for i in range(algebra.n)]:
                for y in rows[::7] + [algebra.basis(i) for i in range(algebra.n)]:
                    product = algebra.multiply(x, y)
                    self.assertEqual(images[product], found.multiply(images[x], images[y]), (name, space, x, y))
                    self.assertEqual(images[algebra.add(x, y)], found.add(images[x], images[y]))
                self.assertEqual(images[algebra.scaled(3, x)], found.scaled(3, images[x]))

    def test_lifts(self):
        for name, algebra, space in divisors_of(49):
            found = quotient(algebra, space)
            for y in members_of(found):
                lift = unchanged(self, quotient_lift, algebra, space, y)
                self.assertTrue(algebra.is_element(lift))
                self.assertEqual(quotient_image(algebra, space, lift), y)
                self.assertTrue(all(lift[row.index(1)] == 0 for row in space), name)

    def test_by_0(self):
        for algebra in small_algebras().values():
            found = quotient(algebra, ())
            self.assertTrue(found == algebra)
            for x in members_of(algebra)[::3]:
                self.assertEqual(quotient_image(algebra, (), x), x)
                self.assertEqual(quotient_lift(algebra, (), x), x)
            for space in some_spaces(algebra):
                self.assertEqual(image_space(algebra, (), space), space)
                self.assertEqual(lifted_space(algebra, (), space), space)

    def test_by_ideals_of_the_greatest_dimension(self):
        for p in PRIMES:
            dual = Algebra(p, DUAL)
            self.assertTrue(quotient(dual, ((0, 1),)) == numbers(p))
            self.assertEqual(quotient_image(dual, ((0, 1),), (p - 1, 1)), (p - 1,))
            self.assertEqual(quotient_lift(dual, ((0, 1),), (p - 1,)), (p - 1, 0))
            triangular = triangular_algebra(p, 2)
            for space in (((0, 1, 0), (0, 0, 1)), ((1, 0, 0), (0, 1, 0))):
                self.assertTrue(quotient(triangular, space) == numbers(p))
            self.assertTrue(quotient(triangular, ((0, 1, 0),)) == numbers(p, 2))
            pairs = numbers(p, 2)
            self.assertTrue(quotient(pairs, ((1, 0),)) == numbers(p))
        algebra = direct_product(numbers(2), matrix_algebra(2, 2))
        self.assertTrue(quotient(algebra, (algebra.basis(0),)) == matrix_algebra(2, 2))

    def test_spaces_back_and_forth(self):
        for name, algebra, space in divisors_of(49):
            found = quotient(algebra, space)
            image_of = {x: quotient_image(algebra, space, x) for x in members_of(algebra)}
            for u in some_spaces(algebra):
                images = {image_of[x] for x in spanned(u, algebra.n, algebra.p)}
                image = unchanged(self, image_space, algebra, space, u)
                self.assertTrue(is_space(found, image))
                self.assertEqual(spanned(image, found.n, found.p), images, (name, space, u))
                back = lifted_space(algebra, space, image)
                self.assertEqual(back, linear.sum_of(space, u, algebra.n, algebra.p))
            for classes in some_spaces(found):
                inside = spanned(classes, found.n, found.p)
                lift = unchanged(self, lifted_space, algebra, space, classes)
                self.assertTrue(is_space(algebra, lift))
                wanted = {x for x in members_of(algebra) if image_of[x] in inside}
                self.assertEqual(spanned(lift, algebra.n, algebra.p), wanted, (name, space, classes))
                self.assertEqual(image_space(algebra, space, lift), classes)
                self.assertEqual(is_ideal(algebra, lift), is_ideal(found, classes))
                self.assertEqual(is_left_ideal(algebra, lift), is_left_ideal(found, classes))

    def test_kinds_of_the_results(self):
        algebra = triangular_algebra(3, 2)
        space = ((0, 1, 0),)
        self.assertEqual(kinds_of(quotient_image(algebra, space, (2, 1, 1))), kinds_of((2, 1)))
        self.assertEqual(kinds_of(quotient_lift(algebra, space, (2, 1))), kinds_of((2, 0, 1)))
        self.assertEqual(kinds_of(image_space(algebra, space, ((1, 0, 2),))), kinds_of(((1, 2),)))
        self.assertEqual(kinds_of(lifted_space(algebra, space, ((1, 2),))), kinds_of(((1, 0, 2), (0, 1, 0))))


class QuotientErrorsTest(unittest.TestCase):

    def functions(self, algebra, last):
        """The five functions of one argument, the space, each with a wrong last argument and with a right one."""
        return [
            lambda space: quotient(algebra, space),
            lambda space: quotient_image(algebra, space, last),
            lambda space: quotient_lift(algebra, space, last),
            lambda space: image_space(algebra, space, last),
            lambda space: lifted_space(algebra, space, last),
        ]

    def test_malformed_is_first(self):
        algebra = truncated(3, 2)
        for last in ((0, 1), (0,), (), ((0, 1),), None):
            for function in self.functions(algebra, last):
                for value in odd_spaces():
                    check_malformed(self, function, value)

    def test_ideal_is_second(self):
        for p in PRIMES:
            algebra = triangular_algebra(p, 2)
            for last in ((0, 1, 0), (0, 0), (), ((1, 0, 0),), None, "x", [(0, 1, 0)]):
                for function in self.functions(algebra, last):
                    for space in (((1, 0, 0),), ((0, 0, 1),), ((1, 0, 1),), ((1, 0, 0), (0, 0, 1))):
                        check_refused(self, "ideal", function, space)

    def test_whole_is_third(self):
        for algebra in tiny_algebras().values():
            whole = tuple(algebra.basis(i) for i in range(algebra.n))
            for last in (algebra.zero(), (), None, 3, ((),), whole):
                for function in self.functions(algebra, last):
                    check_refused(self, "whole", function, whole)

    def test_the_last_argument(self):
        algebra = truncated(3, 2)
        for x in odd_rows() + [(), [], (0,), (0, 3), (0, True), [0, 1], (0, 0, 0), ((0, 1),)]:
            if x.__class__ is tuple and x == (0, 1):
                continue
            check_malformed(self, quotient_image, algebra, ((0, 1),), x)
            check_malformed(self, quotient_image, algebra, (), x)
        for y in ODD_VALUES + ((0, 1), (3,), (-1,), (True,), [0], ((0,),), (0, 0), ()):
            check_malformed(self, quotient_lift, algebra, ((0, 1),), y)
        for value in odd_spaces():
            check_malformed(self, image_space, algebra, ((0, 1),), value)
            check_malformed(self, image_space, algebra, (), value)
            check_malformed(self, lifted_space, algebra, (), value)
        for classes in odd_spaces() + [((0,),), ((2,),), [(1,)], ((1,), (1,)), ((True,),), ((1, 0),), ((0, 1),)]:
            check_malformed(self, lifted_space, algebra, ((0, 1),), classes)
        self.assertEqual(lifted_space(algebra, ((0, 1),), ((1,),)), ((1, 0), (0, 1)))
        self.assertEqual(lifted_space(algebra, ((0, 1),), ()), ((0, 1),))
        self.assertEqual(image_space(algebra, ((0, 1),), ()), ())


if __name__ == "__main__":
    unittest.main()
