import itertools
import random
import unittest

from helpers import every_row, is_plain_integer, odd_values, raised, unchanged
from polychains.errors import Refused
from polychains.linear import (add, all_rows, combine, common_part, coordinates, dot, identity, is_invertible,
                               is_matrix, is_row, kernel, matrix_inverse, matrix_power, moved, reduced, relations,
                               rest, scaled, solve, space_holds, span, sum_of, times, unsolved)


def plain_sum(rows, weights, width, p):
    return tuple(sum(weight * row[at] for row, weight in zip(rows, weights)) % p for at in range(width))


def plain_product(v, w, p):
    return sum(x * y for x, y in zip(v, w)) % p


def spanned(rows, width, p):
    """All rows of the space, found without any table."""
    found = {(0,) * width}
    for row in rows:
        found = {tuple((x + a * y) % p for x, y in zip(other, row)) for other in found for a in range(p)}
    return found


def samples():
    """Triples of a prime, a width and rows: all short lists for the least primes, some for other ones."""
    for p, width, most in ((2, 0, 3), (2, 1, 3), (2, 2, 3), (3, 1, 3), (3, 2, 2), (2, 3, 2), (5, 0, 1), (5, 1, 2)):
        for many in range(most + 1):
            for rows in itertools.product(every_row(width, p), repeat=many):
                yield p, width, rows
    chooser = random.Random(7)
    for p, width in ((2, 4), (2, 5), (3, 3), (5, 3), (7, 2), (31, 2)):
        yield p, width, ()
        for many in range(1, 6):
            for _ in range(8):
                rows = [tuple(chooser.randrange(p) for _ in range(width)) for _ in range(many)]
                rows[chooser.randrange(many)] = rows[0]
                if chooser.randrange(3) == 0:
                    rows[chooser.randrange(many)] = (0,) * width
                yield p, width, rows


def spaces(width, p):
    """All spaces of a width as reduced tables."""
    tables = set()
    for many in range(width + 1):
        for rows in itertools.product(every_row(width, p), repeat=many):
            tables.add(span(rows, width, p))
    return sorted(tables)


class LinearCase(unittest.TestCase):
    def assert_reduced(self, table, width, p):
        self.assertIsInstance(table, tuple)
        pivots = []
        for row in table:
            self.assertIsInstance(row, tuple)
            self.assertEqual(len(row), width)
            self.assertTrue(all(is_plain_integer(item) and 0 <= item < p for item in row))
            self.assertTrue(any(row))
            pivot = min(at for at in range(width) if row[at])
            self.assertEqual(row[pivot], 1)
            self.assertEqual([other[pivot] for other in table].count(0), len(table) - 1)
            pivots.append(pivot)
        self.assertEqual(pivots, sorted(set(pivots)))
        return tuple(pivots)

    def assert_space(self, table, width, p, expected):
        self.assert_reduced(table, width, p)
        self.assertEqual(spanned(table, width, p), set(expected))


class Rows(LinearCase):
    def test_is_row_for_every_value(self):
        for value in odd_values():
            for p in (2, 3, 31):
                for n in range(4):
                    expected = (isinstance(value, tuple) and len(value) == n
                                and all(is_plain_integer(item) and 0 <= item < p for item in value))
                    self.assertIs(is_row(value, p, n), expected, value)

    def test_is_row_at_the_bounds(self):
        self.assertIs(is_row((0, 4), 5, 2), True)
        self.assertIs(is_row((0, 5), 5, 2), False)
        self.assertIs(is_row((-1, 4), 5, 2), False)
        self.assertIs(is_row([0, 4], 5, 2), False)
        self.assertIs(is_row((0, True), 5, 2), False)
        self.assertIs(is_row((), 5, 0), True)
        self.assertIs(is_row((0,), 5, 0), False)

    def test_sums_multiples_and_products(self):
        for p, width in ((2, 2), (3, 2), (5, 1), (7, 0), (31, 1)):
            for v in every_row(width, p):
                for a in (-1, 0, 1, 2, p, -p - 1, 10 ** 30, -10 ** 30):
                    self.assertEqual(scaled(v, a, p), tuple(a * x % p for x in v))
                for w in every_row(width, p):
                    self.assertEqual(add(v, w, p), tuple((x + y) % p for x, y in zip(v, w)))
                    self.assertEqual(dot(v, w, p), plain_product(v, w, p))
        self.assertEqual(dot((), (), 3), 0)

    def test_combine(self):
        for p, width, rows in samples():
            for weights in ([-2] * len(rows), tuple(range(len(rows))), [10 ** 30 + at for at in range(len(rows))]):
                self.assertEqual(unchanged(combine, rows, weights, width, p), plain_sum(rows, weights, width, p))
        self.assertEqual(combine((), (), 3, 5), (0, 0, 0))
        self.assertEqual(combine([], [], 0, 5), ())


class Tables(LinearCase):
    def test_reduced_table_and_pivots(self):
        for p, width, rows in samples():
            for given in (list(rows), tuple(rows)):
                table, pivots = unchanged(reduced, given, width, p)
                self.assertEqual(self.assert_reduced(table, width, p), pivots)
                self.assertEqual(spanned(table, width, p), spanned(rows, width, p))
                self.assertEqual(unchanged(span, given, width, p), table)

    def test_each_space_has_one_table(self):
        for p, width in ((2, 2), (3, 2), (2, 3)):
            tables = spaces(width, p)
            self.assertEqual(len({frozenset(spanned(table, width, p)) for table in tables}), len(tables))
        self.assertEqual(len(spaces(2, 2)), 5)
        self.assertEqual(len(spaces(3, 2)), 16)
        self.assertEqual(len(spaces(2, 3)), 6)

    def test_span_of_nothing_and_of_zeros(self):
        for width in range(4):
            self.assertEqual(reduced((), width, 3), ((), ()))
            self.assertEqual(reduced([(0,) * width] * 3, width, 3), ((), ()))

    def test_kernel(self):
        for p, width, rows in samples():
            expected = [v for v in every_row(width, p) if all(plain_product(v, row, p) == 0 for row in rows)]
            self.assert_space(unchanged(kernel, rows, width, p), width, p, expected)

    def test_relations(self):
        for p, width, rows in samples():
            if p ** len(rows) <= 700:
                expected = [weights for weights in every_row(len(rows), p)
                            if not any(plain_sum(rows, weights, width, p))]
                self.assert_space(unchanged(relations, rows, width, p), len(rows), p, expected)

    def test_rest_and_space_holds(self):
        for p, width in ((2, 3), (3, 2), (5, 1), (2, 0)):
            for space in spaces(width, p):
                pivots = self.assert_reduced(space, width, p)
                inside = spanned(space, width, p)
                for v in every_row(width, p):
                    left = rest(space, v, p)
                    self.assertFalse(any(left[at] for at in pivots))
                    self.assertIn(tuple((x - y) % p for x, y in zip(v, left)), inside)
                    self.assertIs(space_holds(space, v, p), v in inside)

    def test_sum_and_common_part(self):
        for p, width in ((2, 3), (3, 2), (5, 1), (2, 0)):
            tables = spaces(width, p)
            for a in tables:
                for b in tables:
                    one, two = spanned(a, width, p), spanned(b, width, p)
                    sums = {tuple((x + y) % p for x, y in zip(v, w)) for v in one for w in two}
                    self.assert_space(unchanged(sum_of, a, b, width, p), width, p, sums)
                    self.assert_space(unchanged(common_part, a, b, width, p), width, p, one & two)

    def test_all_rows(self):
        for p, width in ((2, 3), (3, 2), (5, 1), (7, 1), (2, 0)):
            for space in spaces(width, p):
                found = list(all_rows(space, width, p))
                self.assertEqual(found, sorted(spanned(space, width, p)))
        self.assertEqual(list(all_rows((), 3, 5)), [(0, 0, 0)])
        self.assertEqual(list(all_rows((), 0, 5)), [()])

    def test_all_rows_is_a_generator(self):
        rows = all_rows(identity(40), 40, 31)
        self.assertIs(iter(rows), rows)
        self.assertEqual(next(rows), (0,) * 40)
        for item in range(1, 31):
            self.assertEqual(next(rows), (0,) * 39 + (item,))
        self.assertEqual(next(rows), (0,) * 38 + (1, 0))


class Equations(LinearCase):
    def check_equations(self, rows, width, right, p):
        answers = [v for v in every_row(width, p)
                   if all((plain_product(row, v, p) - value) % p == 0 for row, value in zip(rows, right))]
        answer = unchanged(solve, rows, width, right, p)
        weights = unchanged(unsolved, rows, width, right, p)
        if answers:
            self.assertIn(answer, answers)
            self.assertIsNone(weights)
            free = set(range(width)) - set(self.assert_reduced(span(rows, width, p), width, p))
            self.assertFalse(any(answer[at] for at in free))
            self.assertEqual([v for v in answers if not any(v[at] for at in free)], [answer])
        else:
            self.assertIsNone(answer)
            self.assertTrue(is_row(weights, p, len(rows)))
            self.assertEqual(plain_sum(rows, weights, width, p), (0,) * width)
            self.assertEqual(sum(a * value for a, value in zip(weights, right)) % p, 1)
        return bool(answers)

    def test_solve_and_unsolved(self):
        chooser = random.Random(11)
        seen = set()
        for p, width, rows in samples():
            for _ in range(3):
                right = [chooser.randrange(-2 * p, 2 * p) + p * 10 ** 25 for _ in rows]
                seen.add(self.check_equations(rows, width, right, p))
                self.check_equations(rows, width, tuple(right), p)
            # A right side that surely has an answer.
            v = tuple(chooser.randrange(p) for _ in range(width))
            self.assertTrue(self.check_equations(rows, width, [plain_product(row, v, p) for row in rows], p))
        self.assertEqual(seen, {True, False})

    def test_all_right_sides(self):
        for rows in itertools.product(every_row(2, 3), repeat=2):
            for right in every_row(2, 3):
                self.check_equations(rows, 2, right, 3)

    def test_equations_without_rows_or_width(self):
        self.assertEqual(solve((), 3, (), 5), (0, 0, 0))
        self.assertIsNone(unsolved((), 3, (), 5))
        self.assertEqual(solve([(), ()], 0, [0, 5], 5), ())
        self.assertIsNone(unsolved([(), ()], 0, [0, 5], 5))
        self.assertIsNone(solve([(), ()], 0, [0, 2], 5))
        self.assertEqual(sum(a * b for a, b in zip(unsolved([(), ()], 0, [0, 2], 5), (0, 2))) % 5, 1)

    def test_coordinates(self):
        many = 0
        for p, width, rows in samples():
            if len(spanned(rows, width, p)) == p ** len(rows):
                many += 1
                of = {plain_sum(rows, weights, width, p): weights for weights in every_row(len(rows), p)}
                for v in every_row(width, p):
                    self.assertEqual(unchanged(coordinates, rows, v, p), of.get(v))
        self.assertGreater(many, 40)
        self.assertEqual(coordinates((), (), 3), ())
        self.assertEqual(coordinates([], (0, 0), 3), ())
        self.assertIsNone(coordinates([], (0, 1), 3))


def every_matrix(n, p):
    return list(itertools.product(every_row(n, p), repeat=n))


class Matrices(LinearCase):
    def test_identity(self):
        self.assertEqual(identity(0), ())
        self.assertEqual(identity(1), ((1,),))
        self.assertEqual(identity(3), ((1, 0, 0), (0, 1, 0), (0, 0, 1)))

    def test_is_matrix_for_every_value(self):
        for value in odd_values():
            for p in (2, 3, 31):
                for n in range(4):
                    expected = (isinstance(value, tuple) and len(value) == n
                                and all(isinstance(row, tuple) and len(row) == n for row in value)
                                and all(is_plain_integer(item) and 0 <= item < p for row in value for item in row))
                    self.assertIs(is_matrix(value, p, n), expected, value)

    def test_is_matrix(self):
        self.assertIs(is_matrix((), 2, 0), True)
        self.assertIs(is_matrix(((0, 1), (1, 1)), 2, 2), True)
        self.assertIs(is_matrix(((0, 1), (1, 2)), 2, 2), False)
        self.assertIs(is_matrix(((0, 1), (1, True)), 2, 2), False)
        self.assertIs(is_matrix([(0, 1), (1, 1)], 2, 2), False)
        self.assertIs(is_matrix(((0, 1), [1, 1]), 2, 2), False)
        self.assertIs(is_matrix(((0, 1),), 2, 2), False)
        self.assertIs(is_matrix(((0, 1), (1,)), 2, 2), False)

    def test_products(self):
        for n, p in ((0, 2), (1, 2), (1, 7), (2, 2)):
            for one in every_matrix(n, p):
                for v in every_row(n, p):
                    self.assertEqual(moved(v, one, p), plain_sum(one, v, n, p))
                for two in every_matrix(n, p):
                    expected = tuple(tuple(sum(one[i][k] * two[k][j] for k in range(n)) % p for j in range(n))
                                     for i in range(n))
                    self.assertEqual(times(one, two, p), expected)

    def test_larger_products(self):
        one, two = ((1, 2, 3), (4, 5, 6), (0, 1, 0)), ((0, 1, 6), (2, 2, 2), (3, 0, 1))
        self.assertEqual(times(one, two, 7), ((6, 5, 6), (0, 0, 5), (2, 2, 2)))
        self.assertEqual(moved((1, 0, 2), one, 7), (1, 4, 3))

    def test_powers(self):
        for n, p in ((0, 3), (1, 5), (2, 2), (2, 3)):
            for matrix in every_matrix(n, p):
                expected = identity(n)
                for k in range(8):
                    self.assertEqual(matrix_power(matrix, k, p), expected)
                    expected = times(expected, matrix, p)

    def test_very_large_powers(self):
        turn = ((0, 1), (2, 0))
        self.assertEqual(matrix_power(turn, 4 * 10 ** 50 + 1, 3), turn)
        self.assertEqual(matrix_power(turn, 4 * 10 ** 50, 3), identity(2))

    def test_inverses(self):
        for n, p in ((0, 3), (1, 2), (1, 31), (2, 2), (2, 3), (2, 5), (3, 2)):
            invertible = 0
            for matrix in every_matrix(n, p):
                holds = len(spanned(matrix, n, p)) == p ** n
                self.assertIs(is_invertible(matrix, p), holds)
                if holds:
                    invertible += 1
                    found = matrix_inverse(matrix, p)
                    self.assertTrue(is_matrix(found, p, n))
                    self.assertEqual(times(matrix, found, p), identity(n))
                    self.assertEqual(times(found, matrix, p), identity(n))
                else:
                    self.assertEqual(raised(Refused, matrix_inverse, matrix, p).reason, "singular")
            expected = 1
            for k in range(n):
                expected = expected * (p ** n - p ** k)
            self.assertEqual(invertible, expected)


if __name__ == "__main__":
    unittest.main()
