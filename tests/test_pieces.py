"""Promises 184 to 186: the pieces of surfaces, how they are joined, parts, and turns."""

import random
import unittest

from tests.samples import HANDLE, ONE_SIDED, gluing_of, open_gluings, ring, wrong_gluings
from tests.test_surfaces import LINK, OTHER_PLANE, PLANE, TORUS, wrong_vectors
from tests.told_surfaces import (
    added, squares_of, surfaces, times, told_agree, told_euler, told_has_turns, told_joined, told_neighbours,
    told_parts, told_pieces)
from wedgespace.errors import BadNumber, NotClosed, NotGluing, NotVector, TooLarge
from wedgespace.pieces import has_turns, neighbours, parts, pieces
from wedgespace.surfaces import euler, is_allowed, simple_vectors

GREAT = 10 ** 5000


def counted(members, size):
    """Return the vector of a list of pieces."""
    vector = [0] * size
    for t, kind, _ in members:
        vector[7 * t + kind] += 1
    return vector


class NamesTest(unittest.TestCase):
    def test_names(self):
        self.assertEqual(pieces(ring(2, 1), [0] * 14), [])
        self.assertEqual(pieces(ring(2, 1), added(LINK, times(2, TORUS))), [
            (0, 0, 0), (0, 1, 0), (0, 4, 0), (0, 4, 1), (1, 0, 0), (1, 1, 0), (1, 4, 0), (1, 4, 1)])
        for gluing, vector in surfaces():
            found = pieces(gluing, list(vector))
            self.assertEqual(found, told_pieces(vector))
            self.assertEqual((found, len(found)), (sorted(found), sum(vector)))

    def test_500_and_501_pieces(self):
        gluing = ring(1, 0)
        for vector in ([250, 250, 0, 0, 0, 0, 0], [1, 1, 1, 1, 496, 0, 0]):
            self.assertEqual(len(pieces(gluing, vector)), 500)
            self.assertEqual(added(*parts(gluing, vector)), vector)
            self.assertTrue(has_turns(gluing, vector))
            self.assertEqual(len(neighbours(gluing, vector, (0, 0, 0))), 3)
        for vector in ([1, 1, 1, 1, 497, 0, 0], [0, 0, 0, 0, 501, 0, 0], [1000, 1000, 0, 0, 0, 0, 0]):
            for call in (pieces, parts, has_turns, lambda one, two: neighbours(one, two, (0, 9, 9))):
                with self.assertRaises(TooLarge):
                    call(gluing, vector)

    def test_errors_in_order(self):
        calls = [pieces, parts, has_turns, lambda gluing, vector: neighbours(gluing, vector, (0, 0, 0))]
        for call in calls:
            for gluing, at in wrong_gluings():
                with self.assertRaises(NotGluing) as caught:
                    call(gluing, [])
                self.assertEqual(caught.exception.at, at)
            for gluing in open_gluings():
                with self.assertRaises(NotClosed):
                    call(gluing, [1000] * 7 * len(gluing))
            wrong = wrong_vectors(ring(2, 1)) + [added(PLANE, TORUS), added(LINK, [1] + [0] * 13), [1000] * 14]
            for vector in wrong:
                with self.assertRaises(NotVector):
                    call(ring(2, 1), vector)

    def test_results_are_new_lists(self):
        pieces(ring(2, 1), LINK).clear()
        neighbours(ring(2, 1), LINK, (0, 0, 0)).clear()
        parts(ring(2, 1), LINK)[0].clear()
        self.assertEqual(len(pieces(ring(2, 1), LINK)), 4)
        self.assertEqual(len(neighbours(ring(2, 1), LINK, (0, 0, 0))), 3)
        self.assertEqual(parts(ring(2, 1), LINK), [LINK])


class NeighboursTest(unittest.TestCase):
    def test_told_neighbours(self):
        gluing = ring(2, 1)
        # The faces 1, 2, 3 of the tetrahedron 0 lead to the faces 0, 3, 2 of the other one, and
        # there to the corners 1, 0, 0.
        self.assertEqual(neighbours(gluing, LINK, (0, 0, 0)), [(1, 1, 0), (1, 0, 0), (1, 0, 0)])
        self.assertEqual(neighbours(gluing, TORUS, (0, 4, 0)), [(1, 4, 0)] * 4)
        # The squares 4 are numbered from the axis on, on both sides of each face.
        self.assertEqual(neighbours(gluing, times(3, TORUS), (0, 4, 0)), [(1, 4, 0)] * 4)
        self.assertEqual(neighbours(gluing, times(3, TORUS), (1, 4, 2)), [(0, 4, 2)] * 4)
        # The squares 5 of the tetrahedron 0 begin beside the edge (0, 2); in the faces 1 and 3 their
        # arcs cut off the corners 3 and 1. Behind them lie the squares 6 of the other one.
        self.assertEqual(neighbours(gluing, times(2, PLANE), (0, 5, 0)), [(1, 6, 1), (1, 6, 1), (1, 6, 0), (1, 6, 0)])
        self.assertEqual(neighbours(gluing, times(2, PLANE), (0, 5, 1)), [(1, 6, 0), (1, 6, 0), (1, 6, 1), (1, 6, 1)])

    def test_by_the_words(self):
        kinds = set()
        for gluing, vector in surfaces():
            joined = told_joined(gluing, vector)
            rng = random.Random(f"neighbours {vector}")
            names = told_pieces(vector)
            for piece in rng.sample(names, min(6, len(names))):
                expected = [joined[(piece, f)][0] for f in range(4) if (piece, f) in joined]
                found = neighbours(gluing, list(vector), piece)
                self.assertEqual(found, expected)
                self.assertEqual(len(found), 3 if piece[1] < 4 else 4)
                many = vector[7 * piece[0] + piece[1]] > 2
                kinds.add((piece[1], many, bool(squares_of(vector, piece[0]))))
        self.assertTrue({(kind, True, True) for kind in range(7)} <= kinds)

    def test_all_arcs_are_joined_twice(self):
        for gluing, vector in surfaces()[::9]:
            arcs = sorted((piece, other) for piece in told_pieces(vector)
                          for other in neighbours(gluing, list(vector), piece))
            self.assertEqual(arcs, sorted((other, piece) for piece, other in arcs))

    def test_no_such_piece(self):
        wrong = [(0, 0, 1), (0, 2, 0), (0, 4, 0), (2, 0, 0), (-1, 0, 0), (0, -1, 0), (0, 0, -1), (0, 7, 0),
                 (0, 0, GREAT), (GREAT, 0, 0), (0, -GREAT, 0)]
        for piece in wrong:
            with self.assertRaises(BadNumber):
                neighbours(ring(2, 1), LINK, piece)
        for vector in ([0] * 14, times(2, PLANE)):
            with self.assertRaises(BadNumber):
                neighbours(ring(2, 1), vector, (1, 5, 0))

    def test_by_faces_in_both_orders(self):
        # Neighbours of all pieces of a surface with many squares next to each other.
        for vector in (added(times(4, PLANE), LINK), added(times(5, OTHER_PLANE), times(2, LINK)), times(4, TORUS)):
            for piece in told_pieces(vector):
                self.assertEqual(neighbours(ring(2, 1), vector, piece), told_neighbours(ring(2, 1), vector, piece))


class PartsTest(unittest.TestCase):
    def test_told_parts(self):
        gluing = ring(2, 1)
        other_link = [0, 0, 1, 1, 0, 0, 0, 0, 0, 1, 1, 0, 0, 0]
        self.assertEqual(parts(gluing, [0] * 14), [])
        self.assertEqual(parts(gluing, added(LINK, other_link)), [LINK, other_link])
        self.assertEqual(parts(gluing, added(TORUS, other_link, LINK)), [LINK, other_link, TORUS])
        self.assertEqual(parts(gluing, added(LINK, LINK, TORUS)), [LINK, LINK, TORUS])
        # Two planes side by side are one sphere around a plane, and a third one lies in it.
        self.assertEqual(parts(gluing, times(2, PLANE)), [times(2, PLANE)])
        self.assertEqual(parts(gluing, times(3, PLANE)), [times(2, PLANE), PLANE])

    def test_by_the_words(self):
        seen = set()
        for gluing, vector in surfaces():
            vector = list(vector)
            found = parts(gluing, vector)
            told = told_parts(gluing, vector)
            self.assertEqual(found, [counted(members, len(vector)) for members in told])
            self.assertEqual(added([0] * len(vector), *found), vector)
            for k, one in enumerate(found):
                self.assertTrue(is_allowed(gluing, one))
                self.assertTrue(all(told_agree(one, other) for other in found[:k]))
                self.assertEqual(euler(gluing, one), told_euler(gluing, one))
            self.assertEqual(sum(euler(gluing, one) for one in found), euler(gluing, vector))
            seen.add(len(found))
        self.assertTrue({1, 2, 3, 4} <= seen)

    def test_parts_have_one_part(self):
        for gluing, vector in surfaces()[::5]:
            for one in parts(gluing, list(vector)):
                self.assertEqual(parts(gluing, one), [one])


class TurnsTest(unittest.TestCase):
    def test_told_turns(self):
        gluing = ring(2, 1)
        self.assertIs(has_turns(gluing, [0] * 14), True)
        self.assertIs(has_turns(gluing, LINK), True)
        self.assertIs(has_turns(gluing, TORUS), True)
        for one in (PLANE, OTHER_PLANE):
            self.assertIs(has_turns(gluing, one), False)
            self.assertIs(has_turns(gluing, times(2, one)), True)
            self.assertIs(has_turns(gluing, times(3, one)), False)
            self.assertIs(has_turns(gluing, added(LINK, one)), False)
            self.assertEqual(euler(gluing, times(2, one)), 2)

    def test_by_the_words(self):
        seen = {True: 0, False: 0}
        for gluing, vector in surfaces():
            vector = list(vector)
            found = has_turns(gluing, vector)
            self.assertIs(found, told_has_turns(gluing, vector))
            self.assertEqual(found, all(has_turns(gluing, one) for one in parts(gluing, vector)))
            seen[found] += 1
            for one in parts(gluing, vector):
                if euler(gluing, one) % 2 == 1:
                    self.assertIs(has_turns(gluing, one), False)
                if euler(gluing, one) == 2:
                    self.assertIs(has_turns(gluing, one), True)
        self.assertGreater(min(seen.values()), 20)

    def test_surfaces_of_even_euler_numbers_without_turns(self):
        # In gluings without sides there are surfaces with the Euler number 0 that have no turns.
        found = {(euler(gluing, one), has_turns(gluing, one))
                 for gluing in (gluing_of(ONE_SIDED), gluing_of(HANDLE)) for one in simple_vectors(gluing)}
        self.assertIn((0, False), found)
        self.assertIn((0, True), found)
        self.assertIn((2, True), found)


if __name__ == "__main__":
    unittest.main()
