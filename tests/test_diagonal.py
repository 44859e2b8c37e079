"""Promises 103 to 107: diagonal forms, divisors, combinations, test weights, kernels."""

import copy
import itertools
import math
import random
import unittest

from tests.test_matrices import random_matrix, told_product, wrong_matrices
from wedgespace.diagonal import (
    combination, diagonal_form, divisors, is_diagonal_form, kernel, test_weights)
from wedgespace.errors import NotMatrix

GREAT = 10 ** 300


def unit(size):
    return [[int(i == j) for j in range(size)] for i in range(size)]


def is_told_form(rows, columns, form):
    """Return whether five matrices are a diagonal form, by the words of the document."""
    left, left_inverse, diagonal, right, right_inverse = form
    sizes = [(left, len(rows), len(rows)), (left_inverse, len(rows), len(rows)), (diagonal, len(rows), columns),
             (right, columns, columns), (right_inverse, columns, columns)]
    for matrix, height, width in sizes:
        if len(matrix) != height or any(len(row) != width for row in matrix):
            return False
    for one, other in ((left, left_inverse), (right, right_inverse)):
        size = len(one)
        if told_product(one, other, size) != unit(size) or told_product(other, one, size) != unit(size):
            return False
    if told_product(told_product(left, rows, columns), right, columns) != diagonal:
        return False
    entries = [diagonal[k][k] for k in range(min(len(rows), columns))]
    if sum(map(abs, entries)) != sum(abs(x) for row in diagonal for x in row) or min(entries, default=0) < 0:
        return False
    return all(b == 0 if a == 0 else b % a == 0 for a, b in zip(entries, entries[1:]))


def determinant(rows):
    """Return the determinant of a small square matrix."""
    if rows == []:
        return 1
    return sum((-1) ** k * rows[0][k] * determinant([row[:k] + row[k + 1:] for row in rows[1:]])
               for k in range(len(rows)))


def told_divisors(rows, columns):
    """Return the divisors by the greatest common divisors of all minors."""
    found = [1]
    for size in range(1, min(len(rows), columns) + 1):
        minors = [determinant([[rows[i][j] for j in js] for i in chosen])
                  for chosen in itertools.combinations(range(len(rows)), size)
                  for js in itertools.combinations(range(columns), size)]
        divisor = math.gcd(*minors)
        if divisor == 0:
            break
        found.append(divisor)
    return [b // a for a, b in zip(found, found[1:])]


def small_matrices():
    """Return pairs of a matrix and its number of columns, of all sorts and small sizes."""
    found = []
    for rows, columns in itertools.product(range(5), repeat=2):
        for seed, size in ((0, 0), (1, 1), (2, 2), (3, 9), (4, 30)):
            found.append((random_matrix(rows, columns, seed, size), columns))
    # Products of smaller matrices: the rank is less than the numbers of rows and columns.
    for rows, columns, rank in ((3, 3, 1), (3, 4, 2), (4, 3, 2), (4, 4, 3), (4, 4, 1)):
        for seed in range(3):
            one, other = random_matrix(rows, rank, seed, 4), random_matrix(rank, columns, seed, 4)
            found.append((told_product(one, other, columns), columns))
    found += [([[6, 0], [0, 4]], 2), ([[0, 0], [0, 5]], 2), ([[0, 3], [0, 0]], 2), ([[-4]], 1), ([[0]], 1),
              ([[2, 0, 0], [0, 3, 0], [0, 0, 5]], 3), ([[4, 0, 0], [0, 6, 0], [0, 0, 9]], 3),
              ([[12, 0], [0, 18], [0, 0]], 2), ([[0, 0, 7], [0, -14, 0]], 3), ([[2, 4], [6, 8]], 2)]
    for seed in range(3):
        found.append((random_matrix(3, 4, seed, GREAT), 4))
        found.append(([[GREAT * x for x in row] for row in random_matrix(3, 3, seed)], 3))
    return found


def large_matrices():
    """Return larger matrices: dense ones, thin ones, and ones of a small rank."""
    found = [(random_matrix(30, 30, 1), 30), (random_matrix(40, 15, 2), 15), (random_matrix(15, 40, 3), 40)]
    found.append((told_product(random_matrix(40, 8, 4, 3), random_matrix(8, 40, 5, 3), 40), 40))
    rng = random.Random("sparse")
    found.append(([[rng.choice([0] * 12 + [1, -1]) for _ in range(60)] for _ in range(60)], 60))
    found.append(([[rng.choice([0, 6, 10, 15, 4]) for _ in range(20)] for _ in range(20)], 20))
    return found


class FormTest(unittest.TestCase):
    def test_small_matrices(self):
        for rows, columns in small_matrices():
            form = diagonal_form(rows, columns)
            self.assertIs(type(form), tuple)
            self.assertTrue(is_told_form(rows, columns, form))
            self.assertIs(is_diagonal_form(rows, columns, form), True)

    def test_large_matrices(self):
        for rows, columns in large_matrices():
            form = diagonal_form(rows, columns)
            self.assertTrue(is_told_form(rows, columns, form))
            self.assertIs(is_diagonal_form(rows, columns, form), True)

    def test_greatest_matrices(self):
        for rows, columns in (([], 120), ([[] for _ in range(120)], 0), (random_matrix(120, 120, 6, 1), 120),
                              (random_matrix(120, 1, 7), 1), (random_matrix(1, 120, 8), 120)):
            self.assertIs(is_diagonal_form(rows, columns, diagonal_form(rows, columns)), True)

    def test_entries_stay_small(self):
        # The rows of the matrix alone decide how great the entries become, not the steps.
        rows = random_matrix(60, 60, 9)
        longest = max(x.bit_length() for part in diagonal_form(rows, 60) for row in part for x in row)
        self.assertLess(longest, 2000)

    def test_without_rows_or_columns(self):
        self.assertEqual(diagonal_form([], 0), ([], [], [], [], []))
        self.assertEqual(diagonal_form([], 2)[:3], ([], [], []))
        self.assertTrue(is_told_form([], 2, diagonal_form([], 2)))
        self.assertTrue(is_told_form([[], []], 0, diagonal_form([[], []], 0)))

    def test_no_lists_are_shared(self):
        for rows, columns in (([[1, 0], [0, 1]], 2), ([[2, 4], [6, 8]], 2), ([[0, 0], [0, 0]], 2)):
            before = copy.deepcopy(rows)
            form = diagonal_form(rows, columns)
            lists = [row for part in form for row in part] + list(form) + rows + [rows]
            self.assertEqual(len({id(one) for one in lists}), len(lists))
            for part in form:
                for row in part:
                    row.clear()
            self.assertEqual(rows, before)
            self.assertTrue(is_told_form(rows, columns, diagonal_form(rows, columns)))

    def test_not_a_matrix(self):
        for rows, columns in wrong_matrices():
            for function in (diagonal_form, divisors, kernel):
                with self.assertRaises(NotMatrix):
                    function(rows, columns)
            with self.assertRaises(NotMatrix):
                is_diagonal_form(rows, columns, ([], [], [], [], []))


class IsFormTest(unittest.TestCase):
    def check_false(self, rows, columns, *parts):
        self.assertIs(is_diagonal_form(rows, columns, parts), False)
        self.assertFalse(is_told_form(rows, columns, parts))

    def test_a_wrong_entry(self):
        for rows, columns in small_matrices()[::4]:
            form = diagonal_form(rows, columns)
            for k in range(5):
                for i, row in enumerate(form[k]):
                    for j in range(len(row)):
                        for more in (1, -1, GREAT):
                            wrong = copy.deepcopy(form)
                            wrong[k][i][j] += more
                            self.check_false(rows, columns, *wrong)

    def test_a_wrong_size(self):
        for rows, columns in (([[2, 4], [6, 8]], 2), ([[1, 2, 3]], 3), ([], 2), ([[], []], 0), ([[0]], 1)):
            form = diagonal_form(rows, columns)
            for k in range(5):
                sizes = [form[k] + [[0] * columns], [row + [0] for row in form[k]] or [[0]], form[k] + [[]]]
                if form[k]:
                    sizes += [form[k][:-1], form[k][1:], [row[:-1] for row in form[k]] if form[k][0] else [],
                              form[k][:-1] + [form[k][-1] + [0]]]
                for part in sizes:
                    wrong = list(form)
                    wrong[k] = part
                    self.check_false(rows, columns, *wrong)
            self.check_false(rows, columns, [], [], [], [], [[]])

    def test_both_sizes_wrong(self):
        # Pairs that are inverse to each other, but of another size than the matrix needs.
        self.check_false([[2]], 1, unit(2), unit(2), [[2]], [[1]], [[1]])
        self.check_false([[2]], 1, [[1]], [[1]], [[2]], unit(2), unit(2))
        self.check_false([[2]], 1, [], [], [[2]], [[1]], [[1]])

    def test_a_wrong_sign(self):
        self.assertIs(is_diagonal_form([[2]], 1, ([[-1]], [[-1]], [[2]], [[-1]], [[-1]])), True)
        self.check_false([[2]], 1, [[-1]], [[-1]], [[-2]], [[1]], [[1]])
        self.check_false([[-2]], 1, [[1]], [[1]], [[-2]], [[1]], [[1]])
        self.check_false([[1, 0], [0, -1]], 2, unit(2), unit(2), [[1, 0], [0, -1]], unit(2), unit(2))

    def test_entries_that_do_not_divide(self):
        for entries in ((2, 3), (0, 1), (4, 2), (0, 5), (6, 9)):
            rows = [[entries[0], 0], [0, entries[1]]]
            self.check_false(rows, 2, unit(2), unit(2), rows, unit(2), unit(2))
        for entries in ((1, 3), (2, 0), (0, 0), (3, 3), (2, 6), (1, GREAT)):
            rows = [[entries[0], 0], [0, entries[1]]]
            self.assertIs(is_diagonal_form(rows, 2, (unit(2), unit(2), rows, unit(2), unit(2))), True)
        rows = [[1, 0, 0], [0, 0, 0], [0, 0, 1]]
        self.check_false(rows, 3, unit(3), unit(3), rows, unit(3), unit(3))

    def test_entries_outside_of_the_diagonal(self):
        for rows in ([[1, 1], [0, 1]], [[1, 0], [1, 1]], [[0, 1], [0, 0]], [[0, 0], [2, 0]]):
            self.check_false(rows, 2, unit(2), unit(2), rows, unit(2), unit(2))

    def test_not_inverse(self):
        # The product is right, but the matrix has no inverse of integers.
        self.check_false([[1]], 1, [[2]], [[0]], [[2]], [[1]], [[1]])
        self.check_false([[1]], 1, [[1]], [[1]], [[2]], [[2]], [[2]])
        self.check_false([[1]], 1, [[1]], [[-1]], [[1]], [[1]], [[1]])
        self.check_false([[0]], 1, [[0]], [[0]], [[0]], [[1]], [[1]])


class DivisorsTest(unittest.TestCase):
    def test_examples(self):
        self.assertEqual(divisors([[2, 4], [6, 8]], 2), [2, 4])
        self.assertEqual(divisors([], 2), [])
        self.assertEqual(divisors([[], []], 0), [])
        self.assertEqual(divisors([[0, 0]], 2), [])
        self.assertEqual(divisors([[4, 0, 0], [0, 6, 0], [0, 0, 9]], 3), [1, 6, 36])
        self.assertEqual(divisors([[-7]], 1), [7])
        self.assertEqual(divisors([[0, -GREAT]], 2), [GREAT])

    def test_by_minors(self):
        for rows, columns in small_matrices():
            self.assertEqual(divisors(rows, columns), told_divisors(rows, columns))

    def test_told_by_any_form(self):
        for rows, columns in small_matrices():
            diagonal = diagonal_form(rows, columns)[2]
            entries = [diagonal[k][k] for k in range(min(len(rows), columns))]
            self.assertEqual([entry for entry in entries if entry], divisors(rows, columns))


class CombinationTest(unittest.TestCase):
    def check(self, rows, columns, vector):
        """Check that exactly one of both is told, and that it is right; return whether it is the first."""
        found = combination(rows, columns, vector)
        told = test_weights(rows, columns, vector)
        self.assertEqual((found is None) + (told is None), 1)
        if found is not None:
            self.assertEqual(len(found), len(rows))
            self.assertEqual([sum(x * row[j] for x, row in zip(found, rows)) for j in range(columns)], vector)
            return True
        modulus, weights = told
        self.assertTrue(modulus == 0 or modulus >= 2)
        self.assertEqual((type(told), type(weights), len(weights)), (tuple, list, columns))
        sums = [sum(x * y for x, y in zip(row, weights)) for row in rows + [vector]]
        if modulus:
            sums = [x % modulus for x in sums]
        self.assertEqual([x != 0 for x in sums], [False] * len(rows) + [True])
        return False

    def test_example(self):
        rows = [[2, 4], [6, 8]]
        self.assertEqual(combination(rows, 2, [8, 12]), [1, 1])
        self.assertIsNone(test_weights(rows, 2, [8, 12]))
        self.assertFalse(self.check(rows, 2, [1, 0]))

    def test_combinations_by_integers(self):
        for rows, columns in small_matrices():
            for seed in range(3):
                factors = random_matrix(1, len(rows), seed)
                vector = told_product(factors, rows, columns)[0]
                self.assertTrue(self.check(rows, columns, vector))

    def test_combinations_by_fractions(self):
        self.assertFalse(self.check([[2, 0], [0, 2]], 2, [1, 1]))
        self.assertFalse(self.check([[3, 6]], 2, [1, 2]))
        self.assertFalse(self.check([[2, 0], [0, 3]], 2, [1, 0]))
        self.assertTrue(self.check([[2, 0], [0, 3]], 2, [4, -9]))
        self.assertFalse(self.check([[GREAT]], 1, [GREAT - 1]))
        self.assertTrue(self.check([[GREAT]], 1, [-3 * GREAT]))
        self.assertTrue(self.check([[6], [10], [15]], 1, [1]))
        for rows, columns in small_matrices():
            for k, row in enumerate(rows):
                divisor = math.gcd(*row)
                if divisor > 1:
                    self.check(rows, columns, [x // divisor for x in row])

    def test_no_combinations_at_all(self):
        self.assertFalse(self.check([[1, 1]], 2, [1, 0]))
        self.assertFalse(self.check([], 2, [0, 3]))
        self.assertFalse(self.check([[0, 0]], 2, [0, 1]))
        self.assertEqual(test_weights([[1, 1]], 2, [1, 0])[0], 0)

    def test_any_vectors(self):
        seen = {True: 0, False: 0}
        for rows, columns in small_matrices() + large_matrices()[:4]:
            for seed in range(4):
                vector = random_matrix(1, columns, seed, (0, 1, 9, GREAT)[seed])[0]
                seen[self.check(rows, columns, vector)] += 1
        self.assertGreater(min(seen.values()), 20)

    def test_all_small_vectors(self):
        # What fractions reach and integers do not, and what neither reaches.
        for rows in ([[2, 4], [6, 8]], [[2, 2]], [[1, 2], [3, 6]], [[4, 0], [0, 6]]):
            reached = {tuple(told_product([[a, b][:len(rows)]], rows, 2)[0])
                       for a in range(-20, 21) for b in range(-20, 21)}
            for vector in itertools.product(range(-4, 5), repeat=2):
                self.assertEqual(self.check(rows, 2, list(vector)), vector in reached)

    def test_without_rows_or_columns(self):
        self.assertEqual(combination([], 0, []), [])
        self.assertEqual(combination([], 3, [0, 0, 0]), [])
        self.assertEqual(len(combination([[], []], 0, [])), 2)
        self.assertIsNone(test_weights([[], []], 0, []))
        self.assertIsNone(combination([], 1, [5]))

    def test_not_a_matrix(self):
        for function in (combination, test_weights):
            for rows, columns in wrong_matrices():
                with self.assertRaises(NotMatrix):
                    function(rows, columns, [0] * len(rows))
            for vector in ([], [1], [1, 2, 3]):
                with self.assertRaises(NotMatrix):
                    function([[1, 2], [3, 4], [5, 6]], 2, vector)
            with self.assertRaises(NotMatrix):
                function([], 2, [])

    def test_arguments_are_not_modified(self):
        rows, vector = [[1, 0], [0, 1]], [3, 4]
        combination(rows, 2, vector).append(5)
        kernel([[1], [1]], 1)[0].append(7)
        test_weights([[1, 1]], 2, vector)[1].append(9)
        self.assertEqual((rows, vector), ([[1, 0], [0, 1]], [3, 4]))


class KernelTest(unittest.TestCase):
    def test_bases(self):
        for rows, columns in small_matrices() + large_matrices():
            basis = kernel(rows, columns)
            rank = len(divisors(rows, columns))
            self.assertEqual(len(basis), len(rows) - rank)
            for vector in basis:
                self.assertEqual(len(vector), len(rows))
                self.assertEqual(told_product([vector], rows, columns), [[0] * columns])
            # They are independent, and no multiple of a vector is reached without the vector.
            self.assertEqual(divisors(basis, len(rows)), [1] * len(basis))

    def test_every_vector_of_the_kernel_is_reached(self):
        for rows, columns in (([[2, 4], [1, 2], [3, 6]], 2), ([[4], [6]], 1), ([[4], [6], [9]], 1), ([[0], [0]], 1)):
            basis = kernel(rows, columns)
            seen = 0
            for vector in itertools.product(range(-6, 7), repeat=len(rows)):
                if told_product([list(vector)], rows, columns) == [[0] * columns]:
                    self.assertIsNotNone(combination(basis, len(rows), list(vector)))
                    seen += 1
            self.assertGreater(seen, 2)

    def test_examples(self):
        self.assertEqual(kernel([], 2), [])
        self.assertEqual(kernel([[2, 4], [6, 8]], 2), [])
        self.assertIn(kernel([[4], [6]], 1), ([[3, -2]], [[-3, 2]]))
        self.assertEqual(len(kernel([[], [], []], 0)), 3)


if __name__ == "__main__":
    unittest.main()
