"""Promises 83 and 84: balls, and the search for a way."""

import itertools
import unittest
from unittest import mock

from tests.samples import (
    EXAMPLE, ONE_SIDED, closed_gluings, gluing_of, open_gluings, random_renaming, renamed_by_words,
    ring, wrong_gluings)
from tests.told_moves import (
    ADDED, MIXED_EDGE, SPLIT, TWO_AROUND, is_told_way, told_can, told_gluing, told_gluings, told_moves)
from wedgespace import walk
from wedgespace.errors import BadNumber, NotClosed, NotGluing, TooLarge
from wedgespace.forms import standard_form
from wedgespace.walk import ball, find_way

GREAT = 10 ** 5000
SMALL = (ring(1, 0), ring(2, 0), ring(2, 1), ring(3, 1), gluing_of(ONE_SIDED), gluing_of(TWO_AROUND),
         gluing_of(MIXED_EDGE), gluing_of(SPLIT))


def told_neighbours(gluing, most):
    """Return the gluings behind moves that lead to at most a number of tetrahedra."""
    moves = [move for move in told_moves(len(gluing)) if told_can(gluing, move)]
    return [told_gluing(gluing, move) for move in moves if len(gluing) + ADDED[move[0]] <= most]


def told_ball(gluing, radius, most):
    """Return a ball, by the words of the document."""
    reached = [gluing]
    for _ in range(radius):
        reached += [other for one in reached for other in told_neighbours(one, most)]
        reached = list(dict.fromkeys(reached))
    return sorted({standard_form(one) for one in reached})


class BallTest(unittest.TestCase):
    def test_by_the_words(self):
        for gluing in SMALL:
            for radius, most in itertools.product(range(3), (1, 2, 3, 4, 6)):
                if most < 6 or len(gluing) < 4:
                    self.assertEqual(ball(gluing, radius, most=most), told_ball(gluing, radius, most))

    def test_told_balls(self):
        self.assertEqual(ball(gluing_of(EXAMPLE), 0, most=1), [standard_form(gluing_of(EXAMPLE))])
        self.assertEqual(ball(gluing_of(EXAMPLE), 2, most=3), [standard_form(gluing_of(EXAMPLE))])
        self.assertEqual(ball(gluing_of(EXAMPLE), 1, most=4), sorted(
            [standard_form(gluing_of(EXAMPLE)), standard_form(gluing_of(SPLIT))]))

    def test_ascending_without_duplicates(self):
        for gluing in SMALL:
            found = ball(gluing, 2, most=5)
            self.assertIs(type(found), list)
            self.assertEqual(found, sorted(set(found)))
            self.assertEqual([standard_form(form) for form in found], found)

    def test_renamed_gluings(self):
        for gluing in SMALL:
            for radius in range(3):
                expected = ball(gluing, radius, most=5)
                other = renamed_by_words(gluing, random_renaming(len(gluing), radius))
                self.assertEqual(ball(other, radius, most=5), expected)

    def test_balls_grow(self):
        for gluing in SMALL:
            balls = [set(ball(gluing, radius, most=6)) for radius in range(3)]
            self.assertTrue(balls[0] <= balls[1] <= balls[2])
            self.assertTrue(set(ball(gluing, 2, most=4)) <= balls[2])

    def test_a_gluing_with_more_tetrahedra(self):
        # It belongs to the ball, and so do those behind the moves that lead down far enough.
        gluing = told_gluing(ring(4, 1), ("split", 0))
        self.assertEqual(len(gluing), 7)
        self.assertEqual(ball(gluing, 0, most=1), [standard_form(gluing)])
        self.assertEqual(ball(gluing, 1, most=4), sorted([standard_form(gluing), standard_form(ring(4, 1))]))
        self.assertEqual(ball(gluing, 2, most=5), told_ball(gluing, 2, 5))
        self.assertEqual(len(ball(ring(13, 5), 2, most=6)), 1)
        self.assertEqual(ball(ring(40, 7), 0, most=1),
                         ball(renamed_by_words(ring(40, 7), random_renaming(40, 1)), 0, most=1))

    def test_results_are_new_lists(self):
        ball(ring(2, 1), 1, most=4).clear()
        self.assertGreater(len(ball(ring(2, 1), 1, most=4)), 1)

    def test_errors_in_order(self):
        for gluing, at in wrong_gluings():
            for radius, most in ((0, 1), (-1, 7)):
                with self.assertRaises(NotGluing) as caught:
                    ball(gluing, radius, most=most)
                self.assertEqual(caught.exception.at, at)
        for gluing in open_gluings():
            for radius, most in ((0, 1), (-1, 7)):
                with self.assertRaises(NotClosed):
                    ball(gluing, radius, most=most)
        for radius in (-1, 3, GREAT, -GREAT):
            with self.assertRaises(BadNumber):
                ball(ring(2, 1), radius, most=4)
        for most in (0, 7, -1, GREAT, -GREAT):
            with self.assertRaises(BadNumber):
                ball(ring(2, 1), 0, most=most)

    def test_too_large(self):
        # No ball of these radii has so many forms: a lower limit shows where the error stands.
        count = len(ball(ring(3, 1), 2, most=6))
        with mock.patch.object(walk, "MOST_FORMS", count):
            self.assertEqual(len(ball(ring(3, 1), 2, most=6)), count)
        with mock.patch.object(walk, "MOST_FORMS", count - 1):
            with self.assertRaises(TooLarge):
                ball(ring(3, 1), 2, most=6)
            with self.assertRaises(BadNumber):
                ball(ring(3, 1), 2, most=7)
        self.assertEqual(walk.MOST_FORMS, 400)


class FindWayTest(unittest.TestCase):
    def check(self, one, other, most):
        way = find_way(one, other, most=most)
        self.assertIsNotNone(way)
        self.assertTrue(is_told_way(one, other, way))
        self.assertLessEqual(len(way[0]), 4)
        return way

    def test_renamed_gluings(self):
        for gluing in SMALL + tuple(closed_gluings()):
            for seed in range(2):
                other = renamed_by_words(gluing, random_renaming(len(gluing), seed))
                for most in (1, 4, 6):
                    self.assertEqual(self.check(gluing, other, most)[0], ())

    def test_behind_one_move(self):
        for gluing in SMALL:
            for other in told_neighbours(gluing, 6)[::3]:
                other = renamed_by_words(other, random_renaming(len(other), "one"))
                most = max(len(gluing), len(other))
                self.check(gluing, other, most)
                self.check(other, gluing, most)

    def test_behind_two_moves(self):
        for gluing in SMALL[:-1]:
            for middle in told_neighbours(gluing, 5)[::3]:
                for other in told_neighbours(middle, 5)[::7]:
                    other = renamed_by_words(other, random_renaming(len(other), "two"))
                    self.check(gluing, other, max(len(gluing), len(middle), len(other)))

    def test_the_bound_left_out_is_four(self):
        one, other = ring(1, 0), gluing_of(SPLIT)
        self.assertTrue(is_told_way(one, other, find_way(one, other)))
        # Here the way leads to five tetrahedra.
        one, other = ring(2, 1), told_gluing(ring(2, 1), ("split", 1))
        self.assertIsNone(find_way(one, other))
        self.check(one, other, 5)

    def test_the_gluings_of_the_way_are_small(self):
        for gluing in SMALL[:4]:
            for middle in told_neighbours(gluing, 5)[::4]:
                for other in told_neighbours(middle, 5)[::5]:
                    way = find_way(gluing, other, most=5)
                    gluings = told_gluings(gluing, way[0])
                    self.assertLessEqual(max(len(one) for one in gluings), 5)

    def test_no_way(self):
        self.assertIsNone(find_way(ring(2, 1), ring(3, 1), most=5))
        self.assertIsNone(find_way(gluing_of(ONE_SIDED), ring(2, 0), most=5))

    def test_more_tetrahedra_than_the_bound(self):
        behind = told_gluing(ring(3, 1), ("face", 0, 2))
        for one, other in ((ring(3, 1), behind), (behind, ring(3, 1)), (ring(1, 0), gluing_of(SPLIT))):
            self.assertIsNone(find_way(one, other, most=3))
        self.assertIsNone(find_way(ring(7, 2), told_gluing(ring(7, 2), ("face", 0, 2)), most=6))
        for n in (13, 40):
            other = renamed_by_words(ring(n, 5), random_renaming(n, "large"))
            self.assertEqual(self.check(ring(n, 5), other, 6)[0], ())
        self.assertIsNone(find_way(ring(13, 5), ring(13, 4), most=6))

    def test_errors_in_order(self):
        good = ring(2, 1)
        wrong = [(gluing, NotGluing, at) for gluing, at in wrong_gluings()]
        wrong += [(gluing, NotClosed, None) for gluing in open_gluings()]
        for gluing, error, at in wrong:
            for one, other in ((gluing, good), (good, gluing)):
                for most in (4, 7):
                    with self.assertRaises(error) as caught:
                        find_way(one, other, most=most)
                    if at is not None:
                        self.assertEqual(caught.exception.at, at)
        with self.assertRaises(NotClosed):
            find_way(open_gluings()[0], ring(41, 1))
        for most in (0, 7, -1, GREAT, -GREAT):
            with self.assertRaises(BadNumber):
                find_way(good, good, most=most)

    def test_too_large(self):
        one, other = ring(3, 1), ring(1, 0)
        count = len(ball(one, 1, most=6))
        self.assertGreater(count, len(ball(other, 1, most=6)))
        with mock.patch.object(walk, "MOST_FORMS", count):
            self.assertIsNone(find_way(one, other, most=6))
        with mock.patch.object(walk, "MOST_FORMS", count - 1):
            for pair in ((one, other), (other, one), (one, one)):
                with self.assertRaises(TooLarge):
                    find_way(*pair, most=6)
                with self.assertRaises(BadNumber):
                    find_way(*pair, most=0)


if __name__ == "__main__":
    unittest.main()
