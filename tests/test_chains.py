"""Promises 120 to 123, and 126: cells, borders, signs and turning circles."""

import itertools
import random
import unittest

from tests.samples import (
    EXAMPLE, HANDLE, ONE_SIDED, PLANE_CIRCLE, QUATERNIONS, closed_gluings, gluing_of, is_odd,
    open_gluings, random_renaming, renamed_by_words, ring, wrong_gluings)
from tests.told_moves import EDGES, many_closed_gluings, others_than, told_gluing
from wedgespace.chains import border, border_matrix, cell_counts, side_signs, turning_circle
from wedgespace.errors import BadNumber, NotClosed, NotGluing, NotMatrix
from wedgespace.skeleton import corner_classes, edge_classes

GREAT = 10 ** 5000


def samples():
    """Return closed gluings with and without sides, renamed ones among them."""
    told = [gluing_of(text) for text in (EXAMPLE, HANDLE, ONE_SIDED, PLANE_CIRCLE, QUATERNIONS)]
    turned = [renamed_by_words(one, random_renaming(len(one), seed)) for one in told for seed in range(4)]
    return told + turned + list(many_closed_gluings())


def told_pairs(gluing):
    """Return the pairs of glued faces, in the order of their first members."""
    found = []
    for t, row in enumerate(gluing):
        for f, (u, p) in enumerate(row):
            if ((u, p[f]), (t, f)) not in found:
                found.append(((t, f), (u, p[f])))
    return found


def told_signs(gluing, places):
    """Return the dict of the signs of the members of an edge class, carried from the first one."""
    t, e = places[0]
    ends = {places[0]: EDGES[e]}
    while len(ends) < len(places):
        for (t, _), (a, b) in list(ends.items()):
            for c in others_than(a, b):
                u, p = gluing[t][c]
                ends[(u, EDGES.index(tuple(sorted((p[a], p[b])))))] = (p[a], p[b])
    return {place: 1 if a < b else -1 for place, (a, b) in ends.items()}


def exchanges(numbers):
    """Return how many exchanges of neighbours sort a list."""
    numbers = list(numbers)
    count = 0
    for k in range(len(numbers)):
        for i in range(len(numbers) - 1):
            if numbers[i] > numbers[i + 1]:
                numbers[i], numbers[i + 1] = numbers[i + 1], numbers[i]
                count += 1
    return count


def told_border_matrix(gluing, dimension):
    """Return a border matrix, by the words of the document."""
    corners, edges, pairs = corner_classes(gluing), edge_classes(gluing), told_pairs(gluing)
    rows = []
    if dimension == 1:
        for places in edges:
            t, e = places[0]
            row = [0] * len(corners)
            row[[(t, EDGES[e][1]) in places for places in corners].index(True)] += 1
            row[[(t, EDGES[e][0]) in places for places in corners].index(True)] -= 1
            rows.append(row)
    elif dimension == 2:
        signs = [told_signs(gluing, places) for places in edges]
        for (t, f), _ in pairs:
            a, b, c = others_than(f)
            row = [0] * len(edges)
            for ends, factor in (((b, c), 1), ((a, c), -1), ((a, b), 1)):
                place = (t, EDGES.index(ends))
                k = [place in places for places in edges].index(True)
                row[k] += factor * signs[k][place]
            rows.append(row)
    else:
        for t in range(len(gluing)):
            row = [0] * len(pairs)
            for f in range(4):
                k = [(t, f) in pair for pair in pairs].index(True)
                factor = (-1) ** f
                if pairs[k][0] != (t, f):
                    p = gluing[t][f][1]
                    factor *= (-1) ** exchanges(p[i] for i in others_than(f))
                row[k] += factor
            rows.append(row)
    return rows


class CellsTest(unittest.TestCase):
    def test_told_counts(self):
        self.assertEqual(cell_counts(gluing_of(EXAMPLE)), [2, 3, 2, 1])
        self.assertEqual(cell_counts(gluing_of(ONE_SIDED)), [1, 3, 4, 2])
        self.assertEqual(cell_counts(ring(2, 1)), [2, 4, 4, 2])
        self.assertEqual(cell_counts(ring(40, 7)), [2, 42, 80, 40])

    def test_counts(self):
        for gluing in samples() + closed_gluings():
            n = len(gluing)
            counts = cell_counts(gluing)
            self.assertEqual(counts, [len(corner_classes(gluing)), len(edge_classes(gluing)), 2 * n, n])
            self.assertEqual(counts[0] - counts[1] + n, 0)


class BorderMatrixTest(unittest.TestCase):
    def test_written_out_by_hand(self):
        told = {
            gluing_of(EXAMPLE): ([[0, 0], [-1, 1], [0, 0]], [[0, 0, 1], [1, 0, 0]], [[0, 0]]),
            ring(2, 1): ([[0, 0], [-1, 1], [-1, 1], [0, 0]],
                         [[0, -1, 1, 1], [0, 1, -1, 1], [1, 1, -1, 0], [1, -1, 1, 0]],
                         [[1, -1, 1, -1], [-1, 1, -1, 1]]),
            gluing_of(ONE_SIDED): ([[0], [0], [0]], [[1, 1, 1], [1, 1, 1], [2, -1, 0], [2, -1, 0]],
                                   [[1, -1, 1, -1], [1, -1, -1, 1]]),
        }
        for gluing, matrices in told.items():
            for dimension in (1, 2, 3):
                self.assertEqual(border_matrix(gluing, dimension), matrices[dimension - 1])

    def test_by_the_words(self):
        for gluing in samples():
            for dimension in (1, 2, 3):
                self.assertEqual(border_matrix(gluing, dimension), told_border_matrix(gluing, dimension))

    def test_the_border_of_a_border_is_zero(self):
        for gluing in samples() + closed_gluings() + [ring(40, 7)]:
            counts = cell_counts(gluing)
            for dimension in (2, 3):
                first, second = border_matrix(gluing, dimension), border_matrix(gluing, dimension - 1)
                for row in first:
                    for j in range(counts[dimension - 2]):
                        self.assertEqual(sum(x * other[j] for x, other in zip(row, second)), 0)

    def test_results_are_new_lists(self):
        for dimension in (1, 2, 3):
            rows = border_matrix(ring(2, 1), dimension)
            self.assertEqual(len({id(row) for row in rows}), len(rows))
            rows[0].clear()
            self.assertEqual(border_matrix(ring(2, 1), dimension), told_border_matrix(ring(2, 1), dimension))

    def test_errors_in_order(self):
        for dimension in (0, 4, -1, GREAT, -GREAT):
            with self.assertRaises(BadNumber):
                border_matrix(ring(2, 1), dimension)
        for gluing, at in wrong_gluings():
            for dimension in (1, 4):
                with self.assertRaises(NotGluing) as caught:
                    border_matrix(gluing, dimension)
                self.assertEqual(caught.exception.at, at)
        for gluing in open_gluings():
            for dimension in (1, 4):
                with self.assertRaises(NotClosed):
                    border_matrix(gluing, dimension)


class BorderTest(unittest.TestCase):
    def test_told_borders(self):
        self.assertEqual(border(ring(2, 1), 0, [3, 4]), [])
        self.assertEqual(border(ring(2, 1), 1, [5, 1, 2, 7]), [-3, 3])
        self.assertEqual(border(ring(2, 1), 2, [1, 0, 2, GREAT]), [2 + GREAT, 1 - GREAT, -1 + GREAT, 1])
        self.assertEqual(border(ring(2, 1), 3, [1, 1]), [0, 0, 0, 0])
        self.assertEqual(border(ring(2, 1), 3, [2, -1]), [3, -3, 3, -3])

    def test_borders_of_chains(self):
        rng = random.Random("chains")
        for gluing in samples():
            for dimension in range(4):
                count = cell_counts(gluing)[dimension]
                chain = [rng.randint(-9, 9) for _ in range(count)]
                before = list(chain)
                found = border(gluing, dimension, chain)
                self.assertEqual(chain, before)
                if dimension == 0:
                    self.assertEqual(found, [])
                    continue
                rows = told_border_matrix(gluing, dimension)
                below = cell_counts(gluing)[dimension - 1]
                self.assertEqual(found, [sum(x * row[j] for x, row in zip(chain, rows)) for j in range(below)])
                zeros = [0] * (cell_counts(gluing)[dimension - 2] if dimension > 1 else 0)
                self.assertEqual(border(gluing, dimension - 1, found), zeros)

    def test_errors_in_order(self):
        for gluing, at in wrong_gluings():
            for dimension in (1, 4):
                with self.assertRaises(NotGluing) as caught:
                    border(gluing, dimension, [])
                self.assertEqual(caught.exception.at, at)
        for gluing in open_gluings():
            for dimension in (1, -1):
                with self.assertRaises(NotClosed):
                    border(gluing, dimension, [])
        for dimension in (-1, 4, GREAT, -GREAT):
            for chain in ([], [0, 0]):
                with self.assertRaises(BadNumber):
                    border(ring(2, 1), dimension, chain)
        for dimension, count in enumerate([2, 4, 4, 2]):
            for length in (0, count - 1, count + 1):
                with self.assertRaises(NotMatrix):
                    border(ring(2, 1), dimension, [0] * length)


class SidesTest(unittest.TestCase):
    def told_signs(self, gluing):
        """Return all lists of signs that begin with 1 and fit, by the words of the document."""
        found = []
        for signs in itertools.product((1, -1), repeat=len(gluing)):
            products = [signs[t] * signs[u] * (-1 if is_odd(p) else 1)
                        for t, row in enumerate(gluing) for u, p in row]
            if signs[0] == 1 and all(product == -1 for product in products):
                found.append(list(signs))
        return found

    def check_circle(self, gluing, circle):
        self.assertIs(type(circle), list)
        self.assertGreater(len(circle), 0)
        product = 1
        for k, (t, f) in enumerate(circle):
            u, p = gluing[t][f]
            self.assertEqual(u, circle[(k + 1) % len(circle)][0])
            product *= 1 if is_odd(p) else -1
        self.assertEqual(product, -1)

    def test_signs_or_a_circle(self):
        seen = {True: 0, False: 0}
        for gluing in samples():
            expected = self.told_signs(gluing)
            signs, circle = side_signs(gluing), turning_circle(gluing)
            if expected:
                self.assertEqual([signs], expected)
                self.assertIsNone(circle)
            else:
                self.assertIsNone(signs)
                self.check_circle(gluing, circle)
            seen[signs is not None] += 1
        self.assertGreater(min(seen.values()), 10)

    def test_told_signs(self):
        self.assertEqual(side_signs(gluing_of(EXAMPLE)), [1])
        self.assertEqual(side_signs(ring(5, 2)), [1, 1, 1, 1, 1])
        turned = renamed_by_words(ring(3, 1), ((0, (0, 1, 2, 3)), (1, (1, 0, 2, 3)), (2, (0, 1, 2, 3))))
        self.assertEqual(side_signs(turned), [1, -1, 1])
        turned = renamed_by_words(ring(3, 1), ((0, (1, 0, 2, 3)), (1, (0, 1, 2, 3)), (2, (0, 1, 2, 3))))
        self.assertEqual(side_signs(turned), [1, -1, -1])
        self.assertIsNone(side_signs(gluing_of(ONE_SIDED)))
        self.assertIsNone(turning_circle(ring(40, 7)))

    def test_large_gluings_without_sides(self):
        gluing = gluing_of(ONE_SIDED)
        while len(gluing) < 38:
            gluing = told_gluing(gluing, ("split", len(gluing) // 2))
        for seed in range(6):
            other = renamed_by_words(gluing, random_renaming(len(gluing), seed))
            self.assertIsNone(side_signs(other))
            self.check_circle(other, turning_circle(other))

    def test_errors(self):
        for function in (cell_counts, side_signs, turning_circle):
            for gluing, at in wrong_gluings():
                with self.assertRaises(NotGluing) as caught:
                    function(gluing)
                self.assertEqual(caught.exception.at, at)
            for gluing in open_gluings():
                with self.assertRaises(NotClosed):
                    function(gluing)


if __name__ == "__main__":
    unittest.main()
