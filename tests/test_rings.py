"""Promises 200 to 205: rings, their orders and numbers, and the tetrahedra around edges."""

import itertools
import math
import unittest

from tests.samples import (
    EXAMPLE, FOURTH, HANDLE, KLEIN, ONE_SIDED, PRISM, QUATERNIONS, closed_gluings, gluing_of, open_gluings,
    random_renaming, renamed_by_words, wrong_gluings)
from tests.samples import ring as told_ring
from tests.test_paths import apart, joined_gluings
from tests.told_moves import EDGES, others_than, told_can, told_gluing, told_moves
from wedgespace.chains import side_signs
from wedgespace.covers import cover
from wedgespace.errors import BadNumber, NotClosed, NotGluing, NotJoined, TooLarge
from wedgespace.forms import standard_form
from wedgespace.gluings import check_gluing, is_oriented
from wedgespace.groups import group_of
from wedgespace.homology import homology
from wedgespace.images import is_transitive, satisfies
from wedgespace.links import is_closed
from wedgespace.rings import axis_of, ring, ring_numbers, ring_order
from wedgespace.skeleton import corner_classes, edge_classes
from wedgespace.walk import find_way

GREAT = 10 ** 5000
ALL = [(p, q) for p in range(1, 13) for q in range(p)]
WRONG = [(0, 0), (13, 0), (13, 1), (-1, 0), (-1, -2), (1, 1), (5, 5), (5, 6), (5, -1), (12, 12), (12, -1), (0, 1),
         (GREAT, 0), (5, GREAT), (-GREAT, 0), (5, -GREAT)]


class RingTest(unittest.TestCase):
    def test_told_rings(self):
        self.assertEqual(ring(1, 0), gluing_of(EXAMPLE))
        self.assertEqual(ring(2, 1), gluing_of("1:1023 1:1023 1:0132 1:0132 / 0:1023 0:1023 0:0132 0:0132"))
        self.assertEqual(ring(3, 0), gluing_of(
            "0:1023 0:1023 1:0132 2:0132 / 1:1023 1:1023 2:0132 0:0132 / 2:1023 2:1023 0:0132 1:0132"))
        self.assertEqual(ring(5, 2), gluing_of(
            "3:1023 2:1023 1:0132 4:0132 / 4:1023 3:1023 2:0132 0:0132 / 0:1023 4:1023 3:0132 1:0132"
            " / 1:1023 0:1023 4:0132 2:0132 / 2:1023 1:1023 0:0132 3:0132"))

    def test_all_rings(self):
        for p, q in ALL:
            gluing = ring(p, q)
            self.assertEqual(gluing, told_ring(p, q))
            self.assertIsNone(check_gluing(gluing))
            self.assertTrue(is_closed(gluing))
            self.assertTrue(is_oriented(gluing))
            self.assertIsNotNone(side_signs(gluing))
            for i in range(p):
                self.assertEqual(gluing[i][2], ((i + 1) % p, (0, 1, 3, 2)))
                self.assertEqual(gluing[i][1], ((i + q) % p, (1, 0, 2, 3)))

    def test_wrong_numbers(self):
        for p, q in WRONG:
            for function in (ring, ring_order):
                with self.assertRaises(BadNumber):
                    function(p, q)


class OrderTest(unittest.TestCase):
    def test_orders(self):
        for p, q in ALL:
            order = ring_order(p, q)
            self.assertEqual(order, p // math.gcd(p, q) if q else 1)
            self.assertEqual(homology(ring(p, q), 1), (0, [order] if order > 1 else []))

    def test_words_of_the_group(self):
        for p, q in ALL:
            if p < 9:
                count, relators = group_of(ring(p, q))
                order = ring_order(p, q)
                self.assertEqual(word_count(count, relators), order)
                # If words that are exchanged are made equal, no two words become equal.
                pairs = itertools.combinations(range(1, count + 1), 2)
                exchanged = tuple((x, y, -x, -y) for x, y in pairs)
                self.assertEqual(word_count(count, relators + exchanged), order)

    def test_numbers_of_classes(self):
        for p, q in ALL:
            if q != 0 and math.gcd(p, q) == 1:
                self.assertEqual(len(edge_classes(ring(p, q))), p + 2)
                self.assertEqual(len(corner_classes(ring(p, q))), 2)

    def test_standard_forms(self):
        for p, q in ALL:
            other = ring(p, p - q) if q else ring(p, 0)
            self.assertEqual(standard_form(other), standard_form(ring(p, q)))


def word_count(count, relators):
    """Return how many words of a group are different, by going from word to word through letters."""
    same, steps = [0], [{}]

    def first(k):
        while same[k] != k:
            k = same[k]
        return k

    def step(k, letter):
        k = first(k)
        if letter not in steps[k]:
            steps[k][letter] = len(same)
            steps.append({-letter: k})
            same.append(len(same))
        return first(steps[k][letter])

    def make_one(k, other):
        left = [(k, other)]
        while left:
            k, other = sorted(map(first, left.pop()))
            if k != other:
                same[other] = k
                for letter, end in steps[other].items():
                    left.append((steps[k].setdefault(letter, end), end))

    at = 0
    while at < len(same):
        for word in relators:
            end = first(at)
            for letter in word:
                end = step(end, letter)
            make_one(end, at)
        for letter in range(1, count + 1):
            step(at, letter)
            step(at, -letter)
        at += 1
    return len([k for k in range(len(same)) if same[k] == k])


def rotations(group, degree):
    """Return the images of a group in which each generator has a power of the rotation s to s + 1."""
    powers = [tuple((s + k) % degree for s in range(degree)) for k in range(degree)]
    told = itertools.product(powers, repeat=group[0])
    return [images for images in told if satisfies(group, images)]


class CoverTest(unittest.TestCase):
    def test_covers_by_rotations(self):
        for p, q in [(2, 1), (3, 1), (3, 2), (4, 1), (4, 3)]:
            group = group_of(ring(p, q))
            told = [images for images in rotations(group, p) if is_transitive(images)]
            self.assertNotEqual(told, [])
            for images in told:
                found = cover(ring(p, q), images)
                self.assertTrue(is_closed(found))
                self.assertEqual(homology(found, 1), (0, []))
                self.assertEqual(word_count(*group_of(found)), 1)

    def test_connected_rings(self):
        # The rings of 2 and 0 and of 1 and 0, and those of 5 and 2 and of 5 and 3.
        self.assertIsNotNone(find_way(ring(5, 2), ring(5, 3), most=5))
        self.assertIsNotNone(find_way(ring(2, 0), ring(1, 0), most=4))
        for p, q, r in [(7, 2, 4), (7, 3, 5), (8, 3, 3), (12, 5, 5), (11, 2, 6)]:
            self.assertEqual(q * r % p, 1)
            for k in range(4):
                self.assertEqual(homology(ring(p, q), k), homology(ring(p, r), k))


class NumbersTest(unittest.TestCase):
    def test_rings(self):
        forms = {(p, q): standard_form(ring(p, q)) for p, q in ALL}
        for p, q in ALL:
            found = ring_numbers(ring(p, q))
            self.assertEqual(found, [other for other in ALL if forms[other] == forms[(p, q)]])
            self.assertIn((p, q), found)
            turned = renamed_by_words(ring(p, q), random_renaming(p, f"rings {q}"))
            self.assertEqual(ring_numbers(turned), found)

    def test_told_numbers(self):
        self.assertEqual(ring_numbers(gluing_of(EXAMPLE)), [(1, 0)])
        self.assertEqual(ring_numbers(ring(5, 1)), [(5, 1), (5, 4)])
        self.assertEqual(ring_numbers(ring(12, 5)), [(12, 5), (12, 7)])

    def test_other_gluings(self):
        for text in (FOURTH, HANDLE, KLEIN, ONE_SIDED, PRISM, QUATERNIONS):
            self.assertEqual(ring_numbers(gluing_of(text)), [])
        forms = {one: standard_form(ring(*one)) for one in ALL}
        behind = [told_gluing(ring(3, 1), move) for move in told_moves(3) if told_can(ring(3, 1), move)]
        for gluing in joined_gluings() + behind:
            form = standard_form(gluing)
            self.assertEqual(ring_numbers(gluing), [one for one in ALL if forms[one] == form])

    def test_results_are_new_lists(self):
        ring_numbers(ring(3, 1)).clear()
        axis_of(ring(3, 1), 0, 0).clear()
        self.assertEqual(ring_numbers(ring(3, 1)), [(3, 1), (3, 2)])
        self.assertEqual(axis_of(ring(3, 1), 0, 0), [0, 1, 2])

    def test_errors_in_order(self):
        for gluing, at in wrong_gluings():
            with self.assertRaises(NotGluing) as caught:
                ring_numbers(gluing)
            self.assertEqual(caught.exception.at, at)
        for gluing in apart() + open_gluings()[:1]:
            with self.assertRaises(NotJoined):
                ring_numbers(gluing)
        self.assertEqual(len(ring_numbers(told_ring(12, 1))), 2)
        for n in (13, 14, 40):
            with self.assertRaises(TooLarge):
                ring_numbers(told_ring(n, 1))


class AxisTest(unittest.TestCase):
    def test_axes_of_rings(self):
        for p, q in ALL:
            for i in range(p):
                self.assertEqual(axis_of(ring(p, q), i, 0), [(i + k) % p for k in range(p)])

    def test_other_edges(self):
        for gluing in closed_gluings()[::3] + [gluing_of(QUATERNIONS), gluing_of(PRISM)]:
            sizes = {place: len(places) for places in edge_classes(gluing) for place in places}
            for t, e in itertools.product(range(len(gluing)), range(6)):
                expected = []
                (a, b), c = EDGES[e], others_than(*EDGES[e])[0]
                here = (t, a, b, c)
                while not expected or here != (t, *EDGES[e], others_than(*EDGES[e])[0]):
                    u, a, b, c = here
                    expected.append(u)
                    v, p = gluing[u][c]
                    here = (v, p[a], p[b], p[others_than(a, b, c)[0]])
                found = axis_of(gluing, t, e)
                self.assertEqual(found, expected)
                self.assertEqual((found[0], len(found)), (t, sizes[(t, e)]))

    def test_told_axes(self):
        self.assertEqual(axis_of(gluing_of(EXAMPLE), 0, 0), [0])
        self.assertEqual(axis_of(gluing_of(EXAMPLE), 0, 1), [0, 0, 0, 0])
        # Around the edge beside the axis one goes down first, through the face 0.
        self.assertEqual(axis_of(ring(3, 1), 0, 5), [0, 2, 1])
        # Around the edge (0, 2): through the face 1 up, through 2 beside, down, and back.
        self.assertEqual(axis_of(ring(5, 2), 0, 1), [0, 2, 1, 4])

    def test_errors_in_order(self):
        for t, e in ((0, 0), (-1, 6)):
            for gluing, at in wrong_gluings():
                with self.assertRaises(NotGluing) as caught:
                    axis_of(gluing, t, e)
                self.assertEqual(caught.exception.at, at)
            for gluing in apart():
                with self.assertRaises(NotJoined):
                    axis_of(gluing, t, e)
            for gluing in open_gluings()[1:]:
                with self.assertRaises(NotClosed):
                    axis_of(gluing, t, e)
        for t, e in ((-1, 0), (3, 0), (0, -1), (0, 6), (GREAT, 0), (0, GREAT), (-GREAT, 0)):
            with self.assertRaises(BadNumber):
                axis_of(ring(3, 1), t, e)


if __name__ == "__main__":
    unittest.main()
