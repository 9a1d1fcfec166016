"""Modules, their submodules, quotients and sums: algebraparts.modules."""

import unittest
from functools import lru_cache
from itertools import product
from random import Random

from algebras import DUAL, field, least_algebras, members_of, numbers, some_spaces, truncated
from samples import ODD_VALUES, PRIMES, all_rows, check_malformed, check_refused, kinds_of, plain_sum, spanned, unchanged
from test_centre import NO_ELEMENTS
from test_ideals import odd_rows, odd_spaces

from algebraparts import linear
from algebraparts.algebra import Algebra
from algebraparts.build import changed, direct_product, matrix_algebra, opposite, tensor_product, triangular_algebra
from algebraparts.groups import cyclic_table, dihedral_table, group_algebra
from algebraparts.ideals import is_left_ideal, left_ideal
from algebraparts.modules import (
    Module, direct_sum, is_submodule, quotient_module, regular, restricted, submodule,
)

EDGES = ((2, 12), (3, 7), (5, 5), (7, 4))


def identity(m, a=1):
    """The table of the multiple a of the identity."""
    return tuple(tuple(a if i == k else 0 for i in range(m)) for k in range(m))


def plain_act(module, x, v):
    """The product by the words of point 7.1."""
    rows = [row for table in module.tables for row in table]
    weights = [a * b for a in x for b in v]
    return plain_sum(rows, weights, module.m, module.algebra.p)


def vectors_of(module):
    """All vectors, ascending."""
    return all_rows(module.m, module.algebra.p)


def is_action(algebra, m, tables):
    """True if 1 v = v and (x y) v = x (y v), looked up for all elements and vectors."""
    vectors = all_rows(m, algebra.p)
    rows = [row for table in tables for row in table]
    at = {(x, v): plain_sum(rows, [a * b for a in x for b in v], m, algebra.p)
          for x in members_of(algebra) for v in vectors}
    if any(at[algebra.one, v] != v for v in vectors):
        return False
    return all(at[algebra.multiply(x, y), v] == at[x, at[y, v]]
               for x in members_of(algebra) for y in members_of(algebra) for v in vectors)


def keeps_basis(algebra, m, tables):
    """The same for the basis elements and the unit vectors alone."""
    def at(x, v):
        return plain_sum([row for table in tables for row in table], [a * b for a in x for b in v], m, algebra.p)
    basis = [algebra.basis(i) for i in range(algebra.n)]
    if any(at(algebra.one, v) != v for v in identity(m)):
        return False
    return all(at(algebra.multiply(x, y), v) == at(x, at(y, v)) for x in basis for y in basis for v in identity(m))


def columns_module(p, m):
    """The module of the columns over the matrix algebra."""
    tables = []
    for i, j in product(range(m), repeat=2):
        tables.append([tuple(1 if (place, k) == (i, j) else 0 for place in range(m)) for k in range(m)])
    return Module(matrix_algebra(p, m), m, tables)


@lru_cache(maxsize=None)
def some_modules(most=64):
    """Modules with at most so many vectors: regular ones, left ideals, quotients by these, sums, others."""
    found = []
    for algebra in least_algebras(most).values():
        whole = regular(algebra)
        found.append(whole)
        for x in (algebra.basis(algebra.n - 1), members_of(algebra)[algebra.p % algebra.p ** algebra.n]):
            space = left_ideal(algebra, [x])
            found.extend([restricted(whole, space), quotient_module(whole, space)])
        small = [module for module in found[-4:] if module.algebra.p ** (2 * module.m) <= most]
        found.extend(direct_sum(module, small[0]) for module in small)
    found.extend(columns_module(p, 2) for p in PRIMES)
    found.append(columns_module(2, 3))
    found.append(Module(Algebra(3, DUAL), 2, [identity(2), [(0, 2), (0, 0)]]))
    return [module for module in found if module.algebra.p ** module.m <= most]


def drawn_vectors(module, seed, many=5):
    """Lists of vectors: none, 0, all unit vectors, and drawn ones."""
    random = Random(seed)
    rows = vectors_of(module)
    zero = (0,) * module.m
    found = [[], [zero], list(identity(module.m)), [zero] + list(identity(module.m))[:1]]
    for k in range(many):
        found.append([random.choice(rows) for _ in range(1 + k % 3)])
    return found


def closing(module, vectors):
    """The set of the vectors of the least space that holds vectors and all x v with its v."""
    found = list(vectors)
    inside = spanned(found, module.m, module.algebra.p)
    for v in found:
        for x in members_of(module.algebra):
            image = plain_act(module, x, v)
            if image not in inside:
                found.append(image)
                inside = spanned(found, module.m, module.algebra.p)
    return inside


def submodules_of(module, seed=5):
    """Reduced tables of several submodules, 0 and all too."""
    return sorted({linear.span(sorted(closing(module, rows)), module.m, module.algebra.p)
                   for rows in drawn_vectors(module, seed, 3)})


class ModuleTest(unittest.TestCase):

    def test_fields(self):
        for p in PRIMES:
            algebra = triangular_algebra(p, 2)
            # The three units act on rows of two numbers as matrices do on columns.
            tables = [[(1, 0), (0, 0)], ((0, 0), (1, 0)), [(0, 0), (0, 1)]]
            module = Module(algebra, 2, tables)
            self.assertEqual(set(vars(module)), {"algebra", "m", "tables"})
            self.assertTrue(module.algebra == algebra)
            self.assertEqual(kinds_of(module.m), kinds_of(2))
            wanted = (((1, 0), (0, 0)), ((0, 0), (1, 0)), ((0, 0), (0, 1)))
            self.assertEqual(kinds_of(module.tables), kinds_of(wanted))
            self.assertEqual(tables, [[(1, 0), (0, 0)], ((0, 0), (1, 0)), [(0, 0), (0, 1)]])

    def test_later_changes_of_the_tables_are_not_seen(self):
        tables = [[(1, 0), (0, 1)], [(0, 1), (0, 0)]]
        module = Module(Algebra(2, DUAL), 2, tables)
        tables[1][0] = (1, 1)
        tables.pop()
        self.assertEqual(module.tables, (((1, 0), (0, 1)), ((0, 1), (0, 0))))

    def test_lists_and_tuples(self):
        for module in some_modules():
            lists = [[row for row in table] for table in module.tables]
            for tables in (lists, tuple(lists), [tuple(table) for table in lists], module.tables):
                again = unchanged(self, Module, module.algebra, module.m, tables)
                self.assertTrue(again == module)
                self.assertEqual(kinds_of(again.tables), kinds_of(module.tables))

    def test_regular(self):
        for algebra in least_algebras(128).values():
            module = unchanged(self, regular, algebra)
            self.assertIs(module.__class__, Module)
            self.assertTrue(module.algebra == algebra)
            self.assertEqual(module.m, algebra.n)
            self.assertEqual(kinds_of(module.tables), kinds_of(algebra.table))
            for x in members_of(algebra)[::5] + [algebra.one]:
                for v in members_of(algebra)[::3]:
                    self.assertEqual(module.act(x, v), algebra.multiply(x, v))

    def test_products_of_all_elements_and_vectors(self):
        sizes = set()
        for module in some_modules(27):
            algebra = module.algebra
            rows = [algebra.basis(i) for i in range(algebra.n)] + members_of(algebra)[-3:]
            for x in rows + members_of(algebra)[::5]:
                for v in vectors_of(module)[::2]:
                    found = unchanged(self, module.act, x, v)
                    self.assertEqual(kinds_of(found), kinds_of(plain_act(module, x, v)))
                    for y in rows:
                        self.assertEqual(module.act(algebra.multiply(y, x), v), module.act(y, found))
            for v in vectors_of(module):
                self.assertEqual(module.act(algebra.one, v), v)
                self.assertEqual(module.act(algebra.zero(), v), (0,) * module.m)
            sizes.add((algebra.p, module.m))
        self.assertTrue({(2, 0), (2, 1), (2, 2), (2, 3), (2, 4), (3, 0), (3, 1), (3, 2), (5, 1), (7, 1)} <= sizes)

    def test_known_products(self):
        for p in PRIMES:
            module = columns_module(p, 2)
            self.assertEqual(module.act((1, p - 1, 0, 1), (1, 1)), (0, 1))
            self.assertEqual(module.act((0, 1, 0, 0), (0, p - 1)), (p - 1, 0))
            self.assertEqual(module.act((0, 1, 0, 0), (1, 0)), (0, 0))

    def test_the_dimension_0(self):
        for p in PRIMES:
            for algebra in (numbers(p), Algebra(p, DUAL), matrix_algebra(p, 2)):
                module = Module(algebra, 0, [[]] * algebra.n)
                self.assertEqual(kinds_of(module.tables), kinds_of(((),) * algebra.n))
                self.assertEqual(module.act(algebra.one, ()), ())
                self.assertIs(module.is_vector(()), True)
                self.assertIs(module.is_vector((0,)), False)
                self.assertTrue(module == Module(algebra, 0, ((),) * algebra.n))
                self.assertEqual(submodule(module, []), ())
                self.assertEqual(submodule(module, [(), ()]), ())
                self.assertIs(is_submodule(module, ()), True)
                self.assertIs(is_submodule(module, ((),)), False)
                self.assertTrue(restricted(module, ()) == module)
                self.assertTrue(quotient_module(module, ()) == module)
                self.assertTrue(direct_sum(module, regular(algebra)) == regular(algebra))
                self.assertTrue(direct_sum(regular(algebra), module) == regular(algebra))
                self.assertTrue(direct_sum(module, module) == module)
                check_malformed(self, Module, algebra, 0, [[]] * (algebra.n + 1))
                check_malformed(self, Module, algebra, 0, [])
                check_malformed(self, Module, algebra, 0, [[()]] * algebra.n)


class EqualityTest(unittest.TestCase):

    def test_modules(self):
        modules = some_modules(16)
        again = some_modules.__wrapped__(16)
        unlike = 0
        for i, one in enumerate(modules):
            self.assertIs(one == again[i], True)
            self.assertIs(one != again[i], False)
            for two in modules:
                wanted = str(one.algebra) == str(two.algebra) and (one.m, one.tables) == (two.m, two.tables)
                self.assertIs(one == two, wanted)
                self.assertIs(one != two, not wanted)
                unlike += not wanted
        self.assertGreater(unlike, 500)

    def test_each_field_counts(self):
        # The same tables over two algebras: the second basis element acts as 0.
        for p in PRIMES:
            tables = [[(1,)], [(0,)]]
            one, two = Module(Algebra(p, DUAL), 1, tables), Module(direct_product_of_numbers(p), 1, tables)
            self.assertEqual(one.tables, two.tables)
            self.assertIs(one == two, False)
            self.assertIs(one != two, True)
            # One algebra, and one of the tables alone is unlike.
            first, second = [Module(Algebra(p, DUAL), 2, [identity(2), table]) for table in (
                [(0, 1), (0, 0)], [(0, 0), (0, 0)])]
            self.assertIs(first == second, False)
            other = Module(Algebra(p, DUAL), 2, [identity(2), [(0, 1), (0, 0)]])
            self.assertIs(first == other, True)
            other.m = 3
            self.assertIs(first == other, False)

    def test_other_values(self):
        for module in (regular(Algebra(2, DUAL)), regular(matrix_algebra(3, 2)), Module(numbers(5), 0, [[]])):
            for value in ODD_VALUES + (module.algebra, module.tables, vars(module), (module,), [module], module.m,
                                       (module.algebra, module.m, module.tables)):
                self.assertIs(module == value, False)
                self.assertIs(module != value, True)
                self.assertIs(value == module, False)


def direct_product_of_numbers(p):
    """The product of two copies of the numbers, in the basis of 1 and (0, 1)."""
    return changed(numbers(p, 2), [(1, 1), (0, 1)])


class ModuleErrorsTest(unittest.TestCase):

    def test_wrong_dimensions(self):
        for p in PRIMES:
            algebra = Algebra(p, DUAL)
            for m in (-1, -10 ** 40, True, False, None, "1", "", (), (1,), [], [2], ((),), algebra, regular(algebra)):
                for tables in ([identity(1), [(0,)]], [[], []], None, 3, [], [[], [], []], [[(0,)], [(0,)]]):
                    check_malformed(self, Module, algebra, m, tables)

    def test_large(self):
        for p, m in EDGES:
            algebra = numbers(p)
            module = Module(algebra, m, [identity(m)])
            self.assertEqual(module.m, m)
            self.assertEqual(module.act((p - 1,), (1,) * m), (p - 1,) * m)
            for many in (m + 1, m + 2, 100, 10 ** 40):
                # Ahead of tables that have not the form, or are those of no module.
                for tables in (None, [], [[]], [identity(m)], 3, "x"):
                    check_refused(self, "large", Module, algebra, many, tables)
            check_refused(self, "large", Module, algebra, m + 1, [identity(m + 1)])
            check_refused(self, "large", Module, algebra, m + 1, [identity(m + 1, 0)])
            check_malformed(self, Module, algebra, m, [identity(m + 1)])
            check_refused(self, "module", Module, algebra, m, [identity(m, 0)])

    def test_tables_without_the_form(self):
        algebra = Algebra(3, DUAL)
        good = [[(1, 0), (0, 1)], [(0, 1), (0, 0)]]
        self.assertEqual(Module(algebra, 2, good).m, 2)
        # Each of these is put in the place of the second table, of one of its rows, of an item, or of all.
        tables = [[], [(0, 1)], [(0, 1), (0, 0), (0, 0)], None, 0, True, "", "ab", {0: (0, 1), 1: (0, 0)}, (0, 1)]
        rows = [[0, 0], (0,), (0, 0, 0), (), None, 0, False, "00", "", ((0, 0),), (0, 3), (-1, 0), (3, 0),
                (0, True), (False, 0), (None, 0), ("0", "0"), (0, (0,)), {0: 0, 1: 0}, algebra]
        for table in tables:
            check_malformed(self, Module, algebra, 2, [good[0], table])
            check_malformed(self, Module, algebra, 2, (table, good[1]))
        for row in rows:
            for k in range(2):
                for wrong in ([(0, 1), row], [row, (0, 0)], ((0, 1), row)):
                    # Also where 1 does not act as 1.
                    for first in (good[0], good[1]):
                        check_malformed(self, Module, algebra, 2, [first, wrong])
                        check_malformed(self, Module, algebra, 2, (wrong, first))
        for value in ODD_VALUES + (good[:1], good + [good[1]], (), {0: good[0], 1: good[1]}, regular(algebra), "01"):
            check_malformed(self, Module, algebra, 2, value)
        for m in (0, 1, 3, 7):
            check_malformed(self, Module, algebra, m, good)

    def test_1_does_not_act_as_1(self):
        for p in PRIMES:
            # The products are kept: only 1 does not act as it should.
            check_refused(self, "module", Module, numbers(p), 1, [[(0,)]])
            check_refused(self, "module", Module, numbers(p), 2, [[(1, 0), (0, 0)]])
            check_refused(self, "module", Module, numbers(p), 2, [[(1, 1), (0, 0)]])
            check_refused(self, "module", Module, numbers(p, 2), 2, [[(1, 0), (0, 0)], [(0, 0), (0, 0)]])
            check_refused(self, "module", Module, Algebra(p, DUAL), 1, [[(0,)], [(0,)]])
            check_refused(self, "module", Module, matrix_algebra(p, 2), 1, [[(0,)]] * 4)
            if p > 2:
                check_refused(self, "module", Module, numbers(p), 1, [[(2,)]])

    def test_products_that_are_not_kept(self):
        for p in PRIMES:
            dual = Algebra(p, DUAL)
            for table in (identity(2), [(0, 1), (1, 0)], [(0, 1), (0, 1)], [(1, 0), (0, 0)]):
                check_refused(self, "module", Module, dual, 2, [identity(2), table])
            # The products of the opposite algebra.
            for algebra in (triangular_algebra(p, 2), matrix_algebra(p, 2)):
                self.assertEqual(Module(algebra, algebra.n, algebra.table).m, algebra.n)
                check_refused(self, "module", Module, algebra, algebra.n, opposite(algebra).table)
                # The rows and columns of one table exchanged.
                turned = [[tuple(row[k] for row in table) for k in range(algebra.n)] for table in algebra.table]
                check_refused(self, "module", Module, algebra, algebra.n, turned)
        for n in (3, 4, 6):
            # The generator of a cyclic group acts with another order.
            algebra = group_algebra(2, cyclic_table(n))
            turn = [[(1 if i == (k + j) % 5 else 0) for i in range(5)] for j in range(n) for k in range(5)]
            tables = [[tuple(row) for row in turn[5 * j:5 * j + 5]] for j in range(n)]
            check_refused(self, "module", Module, algebra, 5, tables)

    def test_all_tables_of_small_sizes(self):
        answers = {True: 0, False: 0}
        cases = [(Algebra(2, DUAL), 2), (field(2), 2), (numbers(2, 2), 2), (numbers(3), 2), (Algebra(3, DUAL), 1),
                 (triangular_algebra(2, 2), 1), (numbers(2, 3), 1), (Algebra(5, DUAL), 1), (numbers(7, 2), 1),
                 (field(3), 1), (direct_product_of_numbers(2), 2), (matrix_algebra(2, 2), 1)]
        for algebra, m in cases:
            for items in product(range(algebra.p), repeat=algebra.n * m * m):
                rows = [items[k:k + m] for k in range(0, len(items), m)]
                tables = [rows[k:k + m] for k in range(0, len(rows), m)]
                wanted = is_action(algebra, m, tables)
                answers[wanted] += 1
                if wanted:
                    self.assertEqual(Module(algebra, m, tables).tables, tuple(tuple(table) for table in tables))
                else:
                    check_refused(self, "module", Module, algebra, m, tables)
        self.assertGreater(min(answers.values()), 20)

    def test_one_changed_item(self):
        # One other item in a table of a large module: few products are kept no more, or none.
        answers = {True: 0, False: 0}
        for p, m in EDGES:
            algebra = truncated(p, 3)
            least = Module(algebra, m - 3, [identity(m - 3), identity(m - 3, 0), identity(m - 3, 0)])
            module = direct_sum(regular(algebra), least)
            random = Random(p)
            for _ in range(40):
                tables = [[list(row) for row in table] for table in module.tables]
                i, k, place = random.randrange(3), random.randrange(m), random.randrange(m)
                tables[i][k][place] = (tables[i][k][place] + random.randrange(1, p)) % p
                tables = [[tuple(row) for row in table] for table in tables]
                wanted = keeps_basis(algebra, m, tables)
                answers[wanted] += 1
                if wanted:
                    self.assertEqual(Module(algebra, m, tables).m, m)
                else:
                    check_refused(self, "module", Module, algebra, m, tables)
        self.assertGreater(min(answers.values()), 5)

    def test_act_with_other_values(self):
        algebra = truncated(3, 2)
        module = Module(algebra, 3, [identity(3), [(0, 0, 1), (0, 0, 0), (0, 0, 0)]])
        for x in NO_ELEMENTS:
            check_malformed(self, module.act, x, (1, 0, 0))
        for v in ODD_VALUES + ((0, 0), (0, 0, 0, 0), (0, 0, 3), (-1, 0, 0), (0, True, 0), [0, 0, 0], (0, None, 0), "000"):
            check_malformed(self, module.act, (1, 0), v)
            self.assertIs(module.is_vector(v), False)
        check_malformed(self, module.act, (1, 0, 0), (1, 0))
        self.assertEqual(module.act((2, 1), (1, 2, 0)), (2, 1, 1))
        for v in all_rows(3, 3):
            self.assertIs(module.is_vector(v), True)


class SumTest(unittest.TestCase):

    def pairs(self):
        """Pairs of modules over one algebra."""
        modules = some_modules(32)
        return [(one, two) for k, one in enumerate(modules) for two in modules[max(0, k - 3):k + 4]
                if one.algebra == two.algebra]

    def test_products(self):
        sizes = set()
        for one, two in self.pairs():
            found = unchanged(self, direct_sum, one, two)
            self.assertIs(found.__class__, Module)
            self.assertTrue(found.algebra == one.algebra)
            self.assertEqual(kinds_of(found.m), kinds_of(one.m + two.m))
            for x in members_of(one.algebra)[::5] + [one.algebra.basis(one.algebra.n - 1)]:
                for v in vectors_of(one)[::7] + [(1,) * one.m]:
                    for w in vectors_of(two)[::9] + [(1,) * two.m]:
                        self.assertEqual(found.act(x, v + w), one.act(x, v) + two.act(x, w))
            sizes.add((one.m, two.m))
        self.assertGreater(len(sizes), 12)

    def test_unlike_algebras(self):
        for p in PRIMES:
            dual, pairs = regular(Algebra(p, DUAL)), regular(numbers(p, 2))
            check_malformed(self, direct_sum, dual, pairs)
            check_malformed(self, direct_sum, pairs, dual)
            check_malformed(self, direct_sum, regular(triangular_algebra(p, 2)), regular(opposite(triangular_algebra(p, 2))))
            # An algebra that is made again is the same.
            self.assertEqual(direct_sum(dual, regular(Algebra(p, [list(row) for row in DUAL]))).m, 4)
        for p, q in ((2, 3), (3, 2), (5, 7)):
            check_malformed(self, direct_sum, regular(numbers(p)), regular(numbers(q)))
            check_malformed(self, direct_sum, Module(numbers(p), 0, [[]]), Module(numbers(q), 0, [[]]))

    def test_large(self):
        for p, m in EDGES:
            algebra = numbers(p)
            for k in range(m + 1):
                one, two = Module(algebra, k, [identity(k)]), Module(algebra, m - k, [identity(m - k)])
                self.assertTrue(direct_sum(one, two) == Module(algebra, m, [identity(m)]))
                if k > 0:
                    wider = Module(algebra, m - k + 1, [identity(m - k + 1)])
                    check_refused(self, "large", direct_sum, one, wider)
            most = Module(algebra, m, [identity(m)])
            check_refused(self, "large", direct_sum, most, regular(algebra))
            check_refused(self, "large", direct_sum, regular(algebra), most)
            check_refused(self, "large", direct_sum, most, most)
            # Unlike algebras are ahead of the size.
            other = numbers(3 if p == 2 else 2)
            check_malformed(self, direct_sum, most, Module(other, 7, [identity(7)]))
            check_malformed(self, direct_sum, most, Module(numbers(p, 2), m, [identity(m), identity(m, 0)]))


class SubmoduleTest(unittest.TestCase):

    def test_against_closing_under_products(self):
        seen = set()
        for module in some_modules():
            for vectors in drawn_vectors(module, 1):
                found = unchanged(self, submodule, module, vectors)
                self.assertTrue(linear.is_reduced(found, module.algebra.p, module.m))
                self.assertEqual(spanned(found, module.m, module.algebra.p), closing(module, vectors))
                self.assertEqual(submodule(module, tuple(vectors)), found)
                self.assertIs(is_submodule(module, found), True)
                seen.add((module.m, len(found)))
        self.assertTrue({(2, 0), (2, 1), (2, 2), (3, 1), (3, 2), (4, 2)} <= seen)

    def test_of_regular_modules(self):
        for algebra in least_algebras(64).values():
            module = regular(algebra)
            for vectors in drawn_vectors(module, 2):
                self.assertEqual(submodule(module, vectors), left_ideal(algebra, vectors))
            for space in some_spaces(algebra):
                self.assertIs(is_submodule(module, space), is_left_ideal(algebra, space))

    def test_is_submodule(self):
        answers = {True: 0, False: 0}
        for module in some_modules(27):
            p, m = module.algebra.p, module.m
            rows = vectors_of(module)
            tables = [()] + [(v,) for v in rows] + [(v, w) for v in rows[:12] for w in rows[:12]] + [identity(m)]
            for table in tables:
                is_table = table == linear.span(table, m, p)
                wanted = is_table and closing(module, table) == spanned(table, m, p)
                self.assertIs(unchanged(self, is_submodule, module, table), wanted, table)
                if is_table:
                    answers[wanted] += 1
        self.assertGreater(min(answers.values()), 50)

    def test_for_every_value(self):
        module = regular(truncated(3, 2))
        for value in odd_spaces() + [((1, 0),), ((1, 1),), ((1, 2),), [(0, 1)], module, ((0, 0),) * 100000]:
            self.assertIs(is_submodule(module, value), False, value)
        for value in ((), ((0, 1),), ((1, 0), (0, 1))):
            self.assertIs(is_submodule(module, value), True)

    def test_other_vectors(self):
        module = regular(truncated(3, 2))
        for value in odd_rows() + [module]:
            check_malformed(self, submodule, module, value)
        # The vectors of another dimension than that of the algebra.
        module = direct_sum(module, module)
        for value in ([(0, 1)], [(0, 0, 0, 3)], [(0, 0, 0, 1), (1, 0)], [(0, 0, 0, 1), [0, 0, 0, 1]]):
            check_malformed(self, submodule, module, value)
        self.assertEqual(submodule(module, [(1, 0, 0, 2)]), ((1, 0, 0, 2), (0, 1, 0, 0)))

    def test_known_ones(self):
        for p in PRIMES:
            module = columns_module(p, 2)
            for v in all_rows(2, p)[1:]:
                self.assertEqual(submodule(module, [v]), ((1, 0), (0, 1)))
            module = regular(triangular_algebra(p, 2))
            self.assertEqual(submodule(module, [(1, 0, 0)]), ((1, 0, 0),))
            self.assertEqual(submodule(module, [(0, 0, 1)]), ((0, 1, 0), (0, 0, 1)))


class RestrictedTest(unittest.TestCase):

    def test_products(self):
        seen = set()
        for module in some_modules(49):
            algebra = module.algebra
            for space in submodules_of(module):
                found = unchanged(self, restricted, module, space)
                self.assertIs(found.__class__, Module)
                self.assertTrue(found.algebra == algebra)
                self.assertEqual(kinds_of(found.m), kinds_of(len(space)))
                for c in vectors_of(found)[::3] + list(identity(found.m)):
                    v = linear.combine(space, c, module.m, algebra.p)
                    for x in members_of(algebra)[::6] + [algebra.basis(i) for i in range(algebra.n)]:
                        image = linear.combine(space, found.act(x, c), module.m, algebra.p)
                        self.assertEqual(image, module.act(x, v))
                seen.add((module.m, len(space)))
        self.assertTrue({(2, 0), (2, 1), (2, 2), (3, 1), (3, 2), (4, 2)} <= seen)

    def test_by_0_and_by_all(self):
        for module in some_modules():
            whole = identity(module.m)
            none = Module(module.algebra, 0, [[]] * module.algebra.n)
            self.assertTrue(restricted(module, ()) == none)
            self.assertTrue(restricted(module, whole) == module)
            self.assertTrue(quotient_module(module, ()) == module)
            self.assertTrue(quotient_module(module, whole) == none)

    def test_quotients(self):
        seen = set()
        for module in some_modules(49):
            algebra, p = module.algebra, module.algebra.p
            for space in submodules_of(module):
                found = unchanged(self, quotient_module, module, space)
                self.assertIs(found.__class__, Module)
                self.assertTrue(found.algebra == algebra)
                pivots = [row.index(1) for row in space]
                free = [k for k in range(module.m) if k not in pivots]
                self.assertEqual(kinds_of(found.m), kinds_of(len(free)))
                classes = {}
                for u in spanned(space, module.m, p):
                    for v in vectors_of(module):
                        if not any(v[k] for k in pivots):
                            classes[linear.add(u, v, p)] = tuple(v[k] for k in free)
                self.assertEqual(len(classes), p ** module.m)
                for v in vectors_of(module)[::4] + list(identity(module.m)):
                    for x in members_of(algebra)[::6] + [algebra.basis(i) for i in range(algebra.n)]:
                        self.assertEqual(found.act(x, classes[v]), classes[module.act(x, v)])
                seen.add((module.m, len(space)))
        self.assertTrue({(2, 0), (2, 1), (2, 2), (3, 1), (3, 2), (4, 2)} <= seen)

    def test_parts_of_sums(self):
        for module in some_modules(16):
            both = direct_sum(module, regular(module.algebra)) if module.m + module.algebra.n < 5 else None
            if both is not None:
                first = identity(both.m)[:module.m]
                second = identity(both.m)[module.m:]
                self.assertTrue(restricted(both, first) == module)
                self.assertTrue(quotient_module(both, second) == module)
                self.assertTrue(restricted(both, second) == regular(module.algebra))
                self.assertTrue(quotient_module(both, first) == regular(module.algebra))

    def test_known_ones(self):
        for p in PRIMES:
            algebra = matrix_algebra(p, 2)
            column = submodule(regular(algebra), [(1, 0, 0, 0)])
            self.assertTrue(restricted(regular(algebra), column) == columns_module(p, 2))
            self.assertTrue(quotient_module(regular(algebra), column) == columns_module(p, 2))
            dual = Algebra(p, DUAL)
            least = Module(dual, 1, [[(1,)], [(0,)]])
            self.assertTrue(restricted(regular(dual), ((0, 1),)) == least)
            self.assertTrue(quotient_module(regular(dual), ((0, 1),)) == least)
            # Row 0 of the table is (1, 1), so the pivot is 0, and the place 1 tells the class.
            pairs = regular(numbers(p, 2))
            turned = direct_sum(restricted(pairs, ((1, 0),)), restricted(pairs, ((1, 0),)))
            self.assertTrue(restricted(turned, ((1, 1),)) == restricted(pairs, ((1, 0),)))
            self.assertTrue(quotient_module(turned, ((1, p - 1),)) == restricted(pairs, ((1, 0),)))

    def test_where_the_space_is_no_submodule(self):
        module = regular(truncated(3, 2))
        for value in odd_spaces() + [((1, 0),), ((1, 1),), ((1, 2),), [(0, 1)], [], module]:
            check_malformed(self, restricted, module, value)
            check_malformed(self, quotient_module, module, value)
        for module in some_modules(27):
            for v in vectors_of(module):
                space = linear.span([v], module.m, module.algebra.p)
                if closing(module, [v]) != spanned([v], module.m, module.algebra.p):
                    check_malformed(self, restricted, module, space)
                    check_malformed(self, quotient_module, module, space)

    def test_the_largest_modules(self):
        cases = [tensor_product(matrix_algebra(2, 2), field(2, 3)), group_algebra(2, dihedral_table(6)),
                 direct_product(matrix_algebra(2, 3), triangular_algebra(2, 2)), truncated(3, 7), truncated(7, 4)]
        for algebra in cases:
            module = regular(algebra)
            space = submodule(module, [algebra.basis(algebra.n - 2)])
            part, rest = restricted(module, space), quotient_module(module, space)
            self.assertEqual(part.m + rest.m, algebra.n)
            self.assertEqual(space, left_ideal(algebra, [algebra.basis(algebra.n - 2)]))
            self.assertEqual(direct_sum(part, rest).m, algebra.n)


if __name__ == "__main__":
    unittest.main()
