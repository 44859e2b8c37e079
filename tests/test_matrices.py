"""Promises 100 to 102: matrices, vectors, products, the identity."""

import copy
import random
import unittest

from wedgespace.errors import NotMatrix
from wedgespace.matrices import identity, is_matrix, product, times, transposed

GREAT = 10 ** 5000


def random_matrix(rows, columns, seed, size=9):
    """Return a matrix of random integers."""
    rng = random.Random(f"matrix {rows} {columns} {seed}")
    return [[rng.randint(-size, size) for _ in range(columns)] for _ in range(rows)]


def told_product(one, other, columns):
    """Return a product, by the words of the document."""
    return [[sum(one[i][k] * other[k][j] for k in range(len(other))) for j in range(columns)]
            for i in range(len(one))]


def wrong_matrices():
    """Return pairs of a list of lists and a number of columns that do not fit."""
    return [
        ([], -1), ([], 121), ([], GREAT), ([], -GREAT), ([[]], 1), ([[1]], 0), ([[1, 2]], 1), ([[1, 2]], 3),
        ([[1, 2], [3]], 2), ([[1], [2, 3]], 1), ([[1, 2], [3, 4], []], 2), ([[1, 2], [3, 4, 5]], 2),
        ([[0]] * 121, 1), ([[]] * 121, 0), ([[0] * 121], 121), ([[1, 2]], -2), ([[1] * 120, [1] * 119], 120)]


class IsMatrixTest(unittest.TestCase):
    def test_matrices(self):
        for rows, columns in ((0, 0), (0, 3), (3, 0), (1, 1), (0, 120), (120, 0), (120, 120), (2, 5)):
            self.assertIs(is_matrix(random_matrix(rows, columns, 0), columns), True)
        self.assertIs(is_matrix([[GREAT, -GREAT]], 2), True)

    def test_others(self):
        for rows, columns in wrong_matrices():
            self.assertIs(is_matrix(rows, columns), False)


class IdentityTest(unittest.TestCase):
    def test_sizes(self):
        self.assertEqual(identity(0), [])
        self.assertEqual(identity(1), [[1]])
        self.assertEqual(identity(3), [[1, 0, 0], [0, 1, 0], [0, 0, 1]])
        self.assertEqual([sum(row) for row in identity(120)], [1] * 120)
        self.assertEqual([identity(120)[k][k] for k in range(120)], [1] * 120)

    def test_wrong_sizes(self):
        for size in (-1, 121, GREAT, -GREAT):
            with self.assertRaises(NotMatrix):
                identity(size)

    def test_rows_are_not_shared(self):
        rows = identity(3)
        rows[0][0] = 7
        self.assertEqual(rows, [[7, 0, 0], [0, 1, 0], [0, 0, 1]])
        self.assertEqual(identity(3)[0], [1, 0, 0])


class ProductTest(unittest.TestCase):
    def test_told_products(self):
        self.assertEqual(product([[1, 2], [3, 4]], [[5, 6, 7], [8, 9, 10]], 3), [[21, 24, 27], [47, 54, 61]])
        self.assertEqual(product([[GREAT, 1]], [[GREAT], [-1]], 1), [[GREAT * GREAT - 1]])

    def test_by_the_words(self):
        for rows in range(4):
            for middle in range(4):
                for columns in range(4):
                    one, other = random_matrix(rows, middle, 1), random_matrix(middle, columns, 2)
                    self.assertEqual(product(one, other, columns), told_product(one, other, columns))
        one, other = random_matrix(120, 120, 1), random_matrix(120, 120, 2)
        self.assertEqual(product(one, other, 120), told_product(one, other, 120))
        self.assertEqual(product(one, identity(120), 120), one)
        self.assertEqual(product(identity(120), one, 120), one)

    def test_without_rows_or_columns(self):
        self.assertEqual(product([], [[1, 2], [3, 4]], 2), [])
        self.assertEqual(product([], [], 7), [])
        self.assertEqual(product([[], []], [], 3), [[0, 0, 0], [0, 0, 0]])
        self.assertEqual(product([[1, 2]], [[], []], 0), [[]])

    def test_not_a_matrix(self):
        for rows, columns in wrong_matrices():
            with self.assertRaises(NotMatrix):
                product([], rows, columns)
            # The second one is wrong, whatever the first one is.
            with self.assertRaises(NotMatrix):
                product([[1], [1, 2]], rows, columns)
        for one in ([[1]], [[1, 2, 3]], [[1, 2], [3]], [[]], [[1, 2]] * 121):
            with self.assertRaises(NotMatrix):
                product(one, [[1, 2], [3, 4]], 2)


class TimesTest(unittest.TestCase):
    def test_told_products(self):
        self.assertEqual(times([1, -2], [[3, 4, 5], [6, 7, 8]], 3), [-9, -10, -11])
        self.assertEqual(times([], [], 3), [0, 0, 0])
        self.assertEqual(times([4, 5], [[], []], 0), [])
        self.assertEqual(times([GREAT], [[-GREAT, 2]], 2), [-GREAT * GREAT, 2 * GREAT])
        rows = random_matrix(120, 120, 3)
        vector = random_matrix(1, 120, 4)[0]
        self.assertEqual(times(vector, rows, 120), told_product([vector], rows, 120)[0])

    def test_not_a_matrix(self):
        for rows, columns in wrong_matrices():
            with self.assertRaises(NotMatrix):
                times([1] * len(rows), rows, columns)

    def test_vectors_of_another_length(self):
        for vector in ([], [1], [1, 2, 3], [0] * 120):
            with self.assertRaises(NotMatrix):
                times(vector, [[1, 2], [3, 4]], 2)
        with self.assertRaises(NotMatrix):
            times([1], [], 2)


class TransposedTest(unittest.TestCase):
    def test_told_matrices(self):
        self.assertEqual(transposed([[1, 2, 3], [4, 5, 6]], 3), [[1, 4], [2, 5], [3, 6]])
        self.assertEqual(transposed([], 3), [[], [], []])
        self.assertEqual(transposed([[], []], 0), [])
        self.assertEqual(transposed([], 0), [])
        rows = random_matrix(120, 7, 5)
        self.assertEqual(transposed(transposed(rows, 7), 120), rows)

    def test_not_a_matrix(self):
        for rows, columns in wrong_matrices():
            with self.assertRaises(NotMatrix):
                transposed(rows, columns)


class ArgumentsTest(unittest.TestCase):
    def test_nothing_is_modified_or_shared(self):
        rows = [[1, 2], [3, 4]]
        before = copy.deepcopy(rows)
        vector = [1, 0]
        results = [product(rows, rows, 2), product(identity(2), rows, 2), [times(vector, rows, 2)],
                   transposed(rows, 2)]
        for result in results:
            for row in result:
                row.append(99)
            result.append([7])
        self.assertEqual(rows, before)
        self.assertEqual(vector, [1, 0])


if __name__ == "__main__":
    unittest.main()
