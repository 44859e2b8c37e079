"""Promises 20 to 23, and the Euler number of 26."""

import itertools
import unittest

from tests.samples import (
    EXAMPLE, KLEIN, ONE_SIDED, TORUS, TURNED, all_of_one, gluing_of, ring, sample_gluings,
    wrong_gluings)
from wedgespace.errors import BadNumber, NotGluing
from wedgespace.gluings import union
from wedgespace.skeleton import (
    around, corner_classes, degrees, edge_classes, edge_index, edge_signs, euler_number,
    turned_edges)

EDGES = [(0, 1), (0, 2), (0, 3), (1, 2), (1, 3), (2, 3)]

BAD_CORNERS = [(0, 0), (3, 3), (-1, 0), (0, -1), (4, 0), (0, 4), (10 ** 30, 1), (2, -10 ** 30)]


def merged(places, pairs):
    """Return the classes of places, merging two of them for each pair."""
    class_of = {place: [place] for place in places}
    for one, other in pairs:
        first, second = class_of[one], class_of[other]
        if first is not second:
            first.extend(second)
            for place in second:
                class_of[place] = first
    classes = {id(members): sorted(members) for members in class_of.values()}
    return sorted(classes.values())


def faces_of(gluing):
    """Return all tuples (t, f, u, p)."""
    return [(t, f, u, p) for t, row in enumerate(gluing) for f, (u, p) in enumerate(row)]


def expected_corner_classes(gluing):
    places = [(t, i) for t in range(len(gluing)) for i in range(4)]
    pairs = [((t, i), (u, p[i])) for t, f, u, p in faces_of(gluing) for i in range(4) if i != f]
    return merged(places, pairs)


def directed_pairs(gluing):
    """Return the pairs of directed edges that are made one."""
    return [((t, a, b), (u, p[a], p[b])) for t, f, u, p in faces_of(gluing)
            for a, b in itertools.permutations(range(4), 2) if f not in (a, b)]


def expected_edge_classes(gluing):
    def place(t, a, b):
        return (t, EDGES.index((min(a, b), max(a, b))))
    places = [(t, e) for t in range(len(gluing)) for e in range(6)]
    return merged(places, [(place(*one), place(*other)) for one, other in directed_pairs(gluing)])


def expected_signs(gluing, places):
    """Return the signs of a class of edge places, found by carrying the direction around."""
    signs = {places[0]: 1}
    pairs = directed_pairs(gluing)
    for _ in places:
        for (t, a, b), (u, c, d) in pairs:
            if a < b and (t, EDGES.index((a, b))) in signs:
                sign = signs[(t, EDGES.index((a, b)))] * (1 if c < d else -1)
                other = (u, EDGES.index((min(c, d), max(c, d))))
                if signs.setdefault(other, sign) != sign:
                    return None
    return [signs[place] for place in places]


class ClassesTest(unittest.TestCase):
    def test_example(self):
        gluing = gluing_of(EXAMPLE)
        self.assertEqual(corner_classes(gluing), [[(0, 0), (0, 1)], [(0, 2), (0, 3)]])
        self.assertEqual(edge_classes(gluing), [[(0, 0)], [(0, 1), (0, 2), (0, 3), (0, 4)], [(0, 5)]])
        self.assertEqual(degrees(gluing), [1, 4, 1])
        self.assertEqual(turned_edges(gluing), [])
        self.assertEqual(edge_signs(gluing), [[1], [1, 1, 1, 1], [1]])

    def test_ring_of_three(self):
        gluing = ring(3, 1)
        self.assertEqual(corner_classes(gluing), [
            [(0, 0), (0, 1), (1, 0), (1, 1), (2, 0), (2, 1)],
            [(0, 2), (0, 3), (1, 2), (1, 3), (2, 2), (2, 3)]])
        self.assertEqual(edge_classes(gluing), [
            [(0, 0), (1, 0), (2, 0)], [(0, 1), (0, 4), (1, 3), (2, 2)],
            [(0, 2), (1, 1), (1, 4), (2, 3)], [(0, 3), (1, 2), (2, 1), (2, 4)],
            [(0, 5), (1, 5), (2, 5)]])
        self.assertEqual(degrees(gluing), [3, 4, 4, 4, 3])
        self.assertEqual(edge_signs(gluing), [[1] * 3, [1] * 4, [1] * 4, [1] * 4, [1] * 3])

    def test_corner_classes(self):
        for gluing in sample_gluings() + all_of_one():
            self.assertEqual(corner_classes(gluing), expected_corner_classes(gluing))

    def test_edge_classes(self):
        for gluing in sample_gluings() + all_of_one():
            expected = expected_edge_classes(gluing)
            self.assertEqual(edge_classes(gluing), expected)
            self.assertEqual(degrees(gluing), [len(places) for places in expected])
            self.assertEqual(sum(degrees(gluing)), 6 * len(gluing))

    def test_turned_edges_and_signs(self):
        some_turned = 0
        for gluing in sample_gluings() + all_of_one():
            expected = [expected_signs(gluing, places) for places in expected_edge_classes(gluing)]
            turned = [k for k, signs in enumerate(expected) if signs is None]
            self.assertEqual(edge_signs(gluing), expected)
            self.assertEqual(turned_edges(gluing), turned)
            some_turned += len(turned)
        self.assertGreater(some_turned, 50)

    def test_told_turned_edges(self):
        gluing = gluing_of(TURNED)
        self.assertEqual(edge_classes(gluing), [[(0, 0)], [(0, 1), (0, 4)], [(0, 2), (0, 3)], [(0, 5)]])
        self.assertEqual(turned_edges(gluing), [0, 3])
        self.assertEqual(edge_signs(gluing), [None, [1, 1], [1, 1], None])
        self.assertEqual(turned_edges(union(ring(1, 0), gluing)), [3, 6])

    def test_signs_of_an_edge_that_lies_the_other_way_round(self):
        # Face 2 lays 0 to 1 on 0 to 2, and face 0 lays 1 to 2 on 2 to 0: so the edge of 1 and 2
        # goes from 2 to 1.
        gluing = gluing_of(KLEIN)
        self.assertEqual(degrees(gluing), [6])
        self.assertEqual(edge_signs(gluing), [[1, 1, 1, -1, 1, 1]])

    def test_results_are_new_lists(self):
        for call in (corner_classes, edge_classes, edge_signs, degrees, turned_edges):
            expected = call(gluing_of(TORUS))
            again = call(gluing_of(TORUS))
            for entry in again:
                if isinstance(entry, list):
                    entry.clear()
            again.clear()
            self.assertEqual(call(gluing_of(TORUS)), expected)

    def test_all_functions_raise(self):
        for gluing, at in wrong_gluings():
            for call in (corner_classes, edge_classes, turned_edges, edge_signs, degrees, euler_number):
                with self.assertRaises(NotGluing) as caught:
                    call(gluing)
                self.assertEqual(caught.exception.at, at)


class EdgeIndexTest(unittest.TestCase):
    def test_both_orders(self):
        for index, (a, b) in enumerate(EDGES):
            self.assertEqual(edge_index(a, b), index)
            self.assertEqual(edge_index(b, a), index)

    def test_other_integers(self):
        for a, b in BAD_CORNERS:
            with self.assertRaises(BadNumber):
                edge_index(a, b)


class AroundTest(unittest.TestCase):
    def test_example(self):
        self.assertEqual(around(gluing_of(EXAMPLE), 0, 0, 1, 2), [(0, 0, 1, 2)])
        self.assertEqual(around(gluing_of(EXAMPLE), 0, 1, 0, 3), [(0, 1, 0, 3)])
        self.assertEqual(around(gluing_of(EXAMPLE), 0, 0, 2, 1),
                         [(0, 0, 2, 1), (0, 1, 2, 3), (0, 1, 3, 0), (0, 0, 3, 2)])

    def test_around_the_axis_of_a_ring(self):
        self.assertEqual(around(ring(4, 1), 2, 0, 1, 2),
                         [(2, 0, 1, 2), (3, 0, 1, 2), (0, 0, 1, 2), (1, 0, 1, 2)])
        self.assertEqual(around(ring(4, 1), 2, 1, 0, 3),
                         [(2, 1, 0, 3), (1, 1, 0, 3), (0, 1, 0, 3), (3, 1, 0, 3)])

    def test_around_a_turned_edge(self):
        self.assertEqual(around(gluing_of(TURNED), 0, 0, 1, 2), [(0, 0, 1, 2), (0, 1, 0, 2)])
        self.assertEqual(around(gluing_of(TURNED), 0, 3, 2, 1), [(0, 3, 2, 1), (0, 2, 3, 1)])

    def test_walks_by_the_words(self):
        for gluing in sample_gluings():
            turned = {k for k in turned_edges(gluing)}
            class_of = {place: k for k, places in enumerate(edge_classes(gluing)) for place in places}
            for t in range(min(len(gluing), 7)):
                for a, b, c, _ in itertools.permutations(range(4)):
                    walk = around(gluing, t, a, b, c)
                    self.assertEqual(walk[0], (t, a, b, c))
                    self.assertEqual(len(set(walk)), len(walk))
                    for here, behind in zip(walk, walk[1:] + walk[:1]):
                        u, x, y, z = here
                        v, p = gluing[u][z]
                        rest = ({0, 1, 2, 3} - {x, y, z}).pop()
                        self.assertEqual(behind, (v, p[x], p[y], p[rest]))
                    k = class_of[(t, edge_index(a, b))]
                    if k not in turned:
                        places = sorted((u, edge_index(x, y)) for u, x, y, _ in walk)
                        self.assertEqual(places, edge_classes(gluing)[k])

    def test_wrong_numbers(self):
        for gluing in (gluing_of(EXAMPLE), ring(5, 2)):
            for t in (-1, -len(gluing), len(gluing), 10 ** 30, -10 ** 30):
                with self.assertRaises(BadNumber):
                    around(gluing, t, 0, 1, 2)
            for a, b in BAD_CORNERS:
                for corners in ((a, b, 2), (a, 1, b), (3, a, b), (b, a, b), (a, 2, b), (2, b, a)):
                    if len(set(corners) & {0, 1, 2, 3}) < 3:
                        with self.assertRaises(BadNumber):
                            around(gluing, 0, *corners)

    def test_a_wrong_gluing_comes_first(self):
        for gluing, at in wrong_gluings():
            for numbers in ((0, 0, 1, 2), (-1, 0, 1, 2), (0, 0, 0, 7)):
                with self.assertRaises(NotGluing) as caught:
                    around(gluing, *numbers)
                self.assertEqual(caught.exception.at, at)


class EulerNumberTest(unittest.TestCase):
    def test_euler_numbers(self):
        told = [(EXAMPLE, 0), (ONE_SIDED, 0), (KLEIN, 1), (TORUS, 1), (TURNED, -1)]
        for text, number in told:
            self.assertEqual(euler_number(gluing_of(text)), number)
        both = union(gluing_of(KLEIN), gluing_of(TORUS))
        self.assertEqual(euler_number(both), 2)
        self.assertEqual(euler_number(ring(40, 7)), 0)

    def test_euler_numbers_by_the_words(self):
        for gluing in sample_gluings() + all_of_one():
            corners, edges = expected_corner_classes(gluing), expected_edge_classes(gluing)
            n = len(gluing)
            self.assertEqual(euler_number(gluing), len(corners) - len(edges) + 2 * n - n)


if __name__ == "__main__":
    unittest.main()
