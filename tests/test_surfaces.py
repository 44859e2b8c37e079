"""Promises 180 to 183, 185, and 187 to 189: vectors, weights, Euler numbers, links, simple vectors."""

import itertools
import math
import random
import unittest

from tests.samples import (
    EXAMPLE, ONE_SIDED, PLANE_CIRCLE, PRISM, QUATERNIONS, closed_gluings, gluing_of, open_gluings, ring, wrong_gluings)
from tests.test_chains import told_border_matrix
from tests.told_moves import many_closed_gluings
from tests.told_surfaces import (
    DOUBLE, added, rank_of, small_gluings, surfaces, times, told_agree, told_allowed, told_conditions, told_euler,
    told_fits, told_link, told_simple, told_simple_vectors, told_weight, told_weights)
from wedgespace.errors import BadNumber, NotClosed, NotGluing, NotVector, TooLarge
from wedgespace.homology import filling
from wedgespace.skeleton import corner_classes, edge_classes
from wedgespace.surfaces import (
    agree, euler, fits, is_allowed, is_simple, link_vector, simple_vectors, weights)

GREAT = 10 ** 5000
ONE = [0] * 7

# For the ring of 2 and 1: the triangles 0 and 1 of both, the squares 4 and 5, and so on.
LINK = [1, 1, 0, 0, 0, 0, 0, 1, 1, 0, 0, 0, 0, 0]
TORUS = [0, 0, 0, 0, 1, 0, 0, 0, 0, 0, 0, 1, 0, 0]
PLANE = [0, 0, 0, 0, 0, 1, 0, 0, 0, 0, 0, 0, 0, 1]
OTHER_PLANE = [0, 0, 0, 0, 0, 0, 1, 0, 0, 0, 0, 0, 1, 0]


def vectors_in(gluing):
    """Return vectors with small entries, most of which do not fit."""
    rng = random.Random(f"vectors {gluing}")
    return [[rng.choice((0, 0, 1, 2)) for _ in range(7 * len(gluing))] for _ in range(20)]


def wrong_vectors(gluing):
    """Return lists that are no vectors for a gluing."""
    size = 7 * len(gluing)
    found = [[], [0] * (size - 1), [0] * (size + 1), [0] * (2 * size), [0] * 6]
    for k in (0, 3, size - 1):
        found += [[x if at == k else 0 for at in range(size)] for x in (-1, 1001, GREAT, -GREAT)]
    return found


class VectorTest(unittest.TestCase):
    def test_vectors_that_fit(self):
        seen = {True: 0, False: 0}
        for gluing in small_gluings():
            for counts in itertools.product((0, 1, 3), repeat=4):
                vector = [0] * (7 * len(gluing))
                vector[:2], vector[4:6] = counts[:2], counts[2:]
                vectors = [vector, added(vector, told_link(gluing, 0))]
                for one in vectors + ([vector[7:] + vector[:7]] if len(gluing) == 2 else []):
                    self.assertIs(fits(gluing, one), told_fits(gluing, one))
                    self.assertIs(is_allowed(gluing, one), told_allowed(gluing, one))
                    seen[fits(gluing, one)] += 1
        for gluing, vector in surfaces():
            self.assertIs(fits(gluing, list(vector)), True)
            self.assertIs(is_allowed(gluing, list(vector)), True)
            for other in vectors_in(gluing)[:2]:
                self.assertIs(fits(gluing, other), told_fits(gluing, other))
        self.assertGreater(min(seen.values()), 20)

    def test_two_kinds_of_squares_in_one_tetrahedron(self):
        both = added(PLANE, TORUS)
        self.assertIs(fits(ring(2, 1), both), True)
        self.assertIs(is_allowed(ring(2, 1), both), False)
        for function in (weights, euler, is_simple):
            with self.assertRaises(NotVector):
                function(ring(2, 1), both)

    def test_a_vector_that_does_not_fit(self):
        for k in range(14):
            vector = list(TORUS)
            vector[k] += 1
            self.assertIs(fits(ring(2, 1), vector), False)
            self.assertIs(is_allowed(ring(2, 1), vector), False)

    def test_small_and_great_entries(self):
        for factor in (0, 1, 999, 1000):
            self.assertIs(is_allowed(ring(2, 1), times(factor, LINK)), True)
        self.assertEqual(euler(ring(2, 1), times(1000, LINK)), 2000)
        self.assertIs(is_allowed(ring(40, 7), times(1000, told_link(ring(40, 7), 1))), True)

    def test_vectors_are_not_modified(self):
        gluing, vector = ring(2, 1), added(LINK, TORUS)
        for function in (fits, is_allowed, weights, euler, is_simple, lambda one, two: agree(one, two, two)):
            function(gluing, vector)
            self.assertEqual(vector, added(LINK, TORUS))

    def test_errors_in_order(self):
        calls = [fits, is_allowed, weights, euler, is_simple, lambda gluing, vector: agree(gluing, vector, vector)]
        for call in calls:
            for gluing, at in wrong_gluings():
                for vector in ([], ONE, [-1] * 7 * len(gluing)):
                    with self.assertRaises(NotGluing) as caught:
                        call(gluing, vector)
                    self.assertEqual(caught.exception.at, at)
            for gluing in open_gluings():
                for vector in ([], [0] * 7 * len(gluing)):
                    with self.assertRaises(NotClosed):
                        call(gluing, vector)
            for gluing in (ring(1, 0), ring(2, 1), ring(12, 5)):
                for vector in wrong_vectors(gluing):
                    with self.assertRaises(NotVector):
                        call(gluing, vector)
        for function in (weights, euler, is_simple):
            with self.assertRaises(NotVector):
                function(ring(2, 1), added(LINK, [1] + [0] * 13))


class AgreeTest(unittest.TestCase):
    def test_vectors_that_agree(self):
        seen = {True: 0, False: 0}
        for gluing in small_gluings():
            simple = told_simple_vectors(gluing)
            for one, other in itertools.product(simple, repeat=2):
                self.assertIs(agree(gluing, one, other), told_agree(one, other))
                seen[told_agree(one, other)] += 1
                if told_agree(one, other):
                    total = added(one, other)
                    self.assertEqual(euler(gluing, total), euler(gluing, one) + euler(gluing, other))
        self.assertGreater(min(seen.values()), 20)

    def test_sums_above_1000(self):
        great = times(1000, TORUS)
        self.assertIs(agree(ring(2, 1), great, great), True)
        self.assertIs(agree(ring(2, 1), great, PLANE), False)
        self.assertIs(agree(ring(2, 1), times(1000, LINK), PLANE), True)

    def test_errors_of_either_vector(self):
        for vector in wrong_vectors(ring(2, 1)) + [added(PLANE, TORUS), added(LINK, [1] + [0] * 13)]:
            for one, other in ((vector, LINK), (LINK, vector), (vector, vector)):
                with self.assertRaises(NotVector):
                    agree(ring(2, 1), one, other)
        for gluing, at in wrong_gluings():
            with self.assertRaises(NotGluing) as caught:
                agree(gluing, [], [])
            self.assertEqual(caught.exception.at, at)


class WeightsTest(unittest.TestCase):
    def test_by_the_words(self):
        for gluing, vector in surfaces():
            found = weights(gluing, list(vector))
            self.assertEqual(found, told_weights(gluing, vector))
            for weight, places in zip(found, edge_classes(gluing)):
                self.assertEqual({told_weight(vector, t, e) for t, e in places}, {weight})

    def test_told_weights(self):
        # The axis is the class 0, the edges (0, 2) and its like are 1, those beside the axis 2 and 3.
        self.assertEqual(edge_classes(ring(2, 1))[1], [(0, 1), (0, 4), (1, 2), (1, 3)])
        self.assertEqual(weights(ring(2, 1), LINK), [2, 1, 1, 0])
        self.assertEqual(weights(ring(2, 1), TORUS), [0, 1, 1, 0])
        self.assertEqual(weights(ring(2, 1), PLANE), [1, 0, 1, 1])

    def test_euler_numbers(self):
        for gluing, vector in surfaces():
            self.assertEqual(euler(gluing, list(vector)), told_euler(gluing, vector))
        self.assertEqual([euler(ring(2, 1), one) for one in (LINK, TORUS, PLANE, OTHER_PLANE, [0] * 14)], [2, 0, 1, 1, 0])

    def test_even_around_each_face(self):
        count = 0
        for gluing, vector in surfaces():
            found = weights(gluing, list(vector))
            for row in told_border_matrix(gluing, 2):
                self.assertEqual(sum(x * y for x, y in zip(row, found)) % 2, 0)
                count += 1
        self.assertGreater(count, 500)

    def test_cycles_that_are_filled(self):
        # The axis of the ring of 2 and 1 meets the plane once, and so is not filled.
        self.assertIsNone(filling(ring(2, 1), [1, 0, 0, 0]))
        for gluing, vector in surfaces()[::7]:
            found = weights(gluing, list(vector))
            for row in told_border_matrix(gluing, 2):
                self.assertIsNotNone(filling(gluing, row))
                self.assertEqual(sum(abs(x) * y for x, y in zip(row, found)) % 2, 0)

    def test_results_are_new_lists(self):
        weights(ring(2, 1), LINK).clear()
        link_vector(ring(2, 1), 0).clear()
        simple_vectors(ring(2, 1))[0].clear()
        self.assertEqual(weights(ring(2, 1), LINK), [2, 1, 1, 0])
        self.assertEqual(link_vector(ring(2, 1), 0), LINK)
        self.assertEqual(len(simple_vectors(ring(2, 1))[0]), 14)


class LinkTest(unittest.TestCase):
    def test_links(self):
        for gluing in closed_gluings() + list(many_closed_gluings()[::3]):
            ends = [(t, v) for t in range(len(gluing)) for v in range(4)]
            for k, places in enumerate(corner_classes(gluing)):
                link = link_vector(gluing, k)
                self.assertEqual(link, told_link(gluing, k))
                self.assertIs(is_allowed(gluing, link), True)
                self.assertEqual(euler(gluing, link), 2)
                self.assertEqual([(t, v) for t, v in ends if link[7 * t + v]], places)
                # An edge class has an end at the corner class for each end of its first place there.
                told = [sum((t, v) in places for v in [(0, 1), (0, 2), (0, 3), (1, 2), (1, 3), (2, 3)][e])
                        for (t, e), *_ in edge_classes(gluing)]
                self.assertEqual(weights(gluing, link), told)

    def test_errors_in_order(self):
        for k in (-1, 2, GREAT, -GREAT):
            with self.assertRaises(BadNumber):
                link_vector(ring(2, 1), k)
        for k in (0, -1):
            for gluing, at in wrong_gluings():
                with self.assertRaises(NotGluing) as caught:
                    link_vector(gluing, k)
                self.assertEqual(caught.exception.at, at)
            for gluing in open_gluings():
                with self.assertRaises(NotClosed):
                    link_vector(gluing, k)


class SimpleTest(unittest.TestCase):
    def test_told_vectors(self):
        gluing = ring(2, 1)
        for vector in (LINK, TORUS, PLANE, OTHER_PLANE):
            self.assertIs(is_simple(gluing, vector), True)
            for factor in (2, 3, 1000):
                self.assertIs(is_simple(gluing, times(factor, vector)), False)
        for vector in (added(LINK, TORUS), added(LINK, PLANE), added(times(2, LINK), times(3, PLANE)), [0] * 14):
            self.assertIs(is_simple(gluing, vector), False)
        self.assertIs(is_simple(ring(1, 0), ONE), False)

    def test_by_the_words(self):
        seen = {True: 0, False: 0}
        for gluing, vector in surfaces():
            self.assertIs(is_simple(gluing, list(vector)), told_simple(gluing, vector))
            seen[told_simple(gluing, vector)] += 1
        self.assertGreater(min(seen.values()), 20)

    def test_links_of_many_tetrahedra(self):
        gluing = ring(40, 7)
        links = [link_vector(gluing, k) for k in range(len(corner_classes(gluing)))]
        self.assertTrue(all(is_simple(gluing, link) for link in links))
        self.assertFalse(is_simple(gluing, added(*links)))

    def test_all_simple_vectors(self):
        greatest = 0
        for gluing in small_gluings():
            found = simple_vectors(gluing)
            self.assertEqual(found, told_simple_vectors(gluing))
            self.assertEqual(found, sorted(found))
            for vector in found:
                self.assertIs(is_simple(gluing, vector), True)
                self.assertEqual(math.gcd(*vector), 1)
                greatest = max(greatest, *vector)
        self.assertEqual(greatest, 2)
        self.assertEqual(simple_vectors(ring(2, 1)), sorted([LINK, TORUS, PLANE, OTHER_PLANE] + [
            [0, 0, 1, 1, 0, 0, 0, 0, 0, 1, 1, 0, 0, 0]]))

    def test_sums_of_simple_vectors(self):
        for gluing in small_gluings():
            simple = simple_vectors(gluing)
            for k in range(len(corner_classes(gluing))):
                # The link has no squares, and so at most those simple vectors belong to it that have none.
                link = link_vector(gluing, k)
                within = [one for one in simple if all(x >= y for x, y in zip(link, one))]
                sums = [added(*some) for count in range(1, 4) for some in itertools.combinations(within, count)]
                self.assertIn(link, sums)
            rng = random.Random(f"sums {gluing}")
            for _ in range(10):
                total = [0] * 7 * len(gluing)
                for one in rng.sample(simple, len(simple)):
                    if told_agree(total, one):
                        total = added(total, times(rng.randrange(4), one))
                self.assertIs(is_allowed(gluing, total), True)
                # No more than these simple vectors are needed: they have the same rank with the vector.
                below = [one for one in simple if all(x or not y for x, y in zip(total, one))]
                self.assertTrue(all(agree(gluing, total, one) for one in below))
                self.assertEqual(rank_of(below), rank_of(below + [total]))

    def test_errors_in_order(self):
        for gluing, at in wrong_gluings():
            with self.assertRaises(NotGluing) as caught:
                simple_vectors(gluing)
            self.assertEqual(caught.exception.at, at)
        for gluing in open_gluings():
            with self.assertRaises(NotClosed):
                simple_vectors(gluing)
        for gluing in (ring(3, 1), gluing_of(PRISM), gluing_of(PLANE_CIRCLE), ring(40, 7)):
            with self.assertRaises(TooLarge):
                simple_vectors(gluing)
        for text in (EXAMPLE, QUATERNIONS, ONE_SIDED, DOUBLE):
            self.assertNotEqual(simple_vectors(gluing_of(text)), [])


if __name__ == "__main__":
    unittest.main()
