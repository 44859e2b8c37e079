"""Promises 163 to 167: covers by images, their numbers and homologies, and side images."""

import itertools
import random
import unittest

from tests.samples import (
    EXAMPLE, FOURTH, HANDLE, KLEIN, ONE_SIDED, PLANE_CIRCLE, PLANES, PRISM, QUATERNIONS, TORUS, TURNED, gluing_of,
    is_odd, random_renaming, renamed_by_words, ring, wrong_gluings)
from tests.test_images import no_images
from tests.test_paths import apart, joined_gluings, told_letters
from tests.told_moves import ADDED, told_can, told_gluing, told_moves
from wedgespace.chains import side_signs
from wedgespace.covers import cover, cover_homologies, cover_numbers, side_images
from wedgespace.errors import BadNumber, NotClosed, NotGluing, NotImages, NotJoined, TooLarge
from wedgespace.gluings import check_gluing, pieces, sides
from wedgespace.groups import group_of, loop
from wedgespace.homology import homology
from wedgespace.images import all_images, classes_of, is_transitive, satisfies
from wedgespace.links import is_closed
from wedgespace.skeleton import edge_classes

GREAT = 10 ** 5000
CLOSED = [EXAMPLE, FOURTH, HANDLE, ONE_SIDED, PLANE_CIRCLE, PRISM, QUATERNIONS]


def told_cover(gluing, images):
    """Return the cover, copy by copy, by the words of the document."""
    degree = len(images[0])
    letters = told_letters(gluing)
    rows = {}
    for t, row in enumerate(gluing):
        for s in range(degree):
            entries = []
            for f, (u, p) in enumerate(row):
                letter = letters[(t, f)]
                copies = [s]
                if letter > 0:
                    copies = [images[letter - 1][s]]
                elif letter < 0:
                    copies = [x for x in range(degree) if images[-letter - 1][x] == s]
                entries.append((u * degree + copies[0], p))
            rows[t * degree + s] = tuple(entries)
    return tuple(rows[t] for t in range(len(gluing) * degree))


def random_images(count, degree, seed):
    rng = random.Random(f"covers {count} {degree} {seed}")
    return tuple(tuple(rng.sample(range(degree), degree)) for _ in range(count))


def moved_and_renamed(gluing, most):
    """Return renamed gluings, and those behind moves that lead to at most so many tetrahedra."""
    found = [renamed_by_words(gluing, random_renaming(len(gluing), seed)) for seed in range(3)]
    moves = [move for move in told_moves(len(gluing)) if told_can(gluing, move)]
    return found + [told_gluing(gluing, move) for move in moves if len(gluing) + ADDED[move[0]] <= most]


class CoverTest(unittest.TestCase):
    def test_told_covers(self):
        # The generator 0 is crossed forwards at the face 0, and backwards at the face 1.
        images = ((1, 2, 0), (0, 1, 2))
        self.assertEqual(cover(gluing_of(EXAMPLE), images), gluing_of(
            "1:1023 2:1023 0:0132 0:0132 / 2:1023 0:1023 1:0132 1:0132 / 0:1023 1:1023 2:0132 2:0132"))
        # The pair of the face 0 of the tetrahedron 0 is in the tree; the generators 0, 1, 2 are the
        # pairs of its faces 1, 2, 3, which are crossed forwards there.
        self.assertEqual(cover(ring(2, 1), ((1, 0), (0, 1), (1, 0))), gluing_of(
            "2:1023 3:1023 2:0132 3:0132 / 3:1023 2:1023 3:0132 2:0132"
            " / 1:1023 0:1023 1:0132 0:0132 / 0:1023 1:1023 0:0132 1:0132"))

    def test_by_the_words(self):
        for gluing in joined_gluings():
            for degree in (1, 2, 3, 4):
                if len(gluing) * degree <= 40:
                    for seed in range(3):
                        images = random_images(len(gluing) + 1, degree, seed)
                        found = cover(gluing, images)
                        self.assertEqual(found, told_cover(gluing, images))
                        self.assertIsNone(check_gluing(found))

    def test_the_cover_of_degree_one(self):
        for gluing in joined_gluings():
            self.assertEqual(cover(gluing, ((0,),) * (len(gluing) + 1)), gluing)

    def test_images_that_satisfy_the_group(self):
        seen = {True: 0, False: 0}
        for text in CLOSED:
            gluing = gluing_of(text)
            for degree in (1, 2, 3):
                for images in all_images(group_of(gluing), degree):
                    found = cover(gluing, images)
                    parts = pieces(found)
                    self.assertEqual(len(parts) == 1, is_transitive(images))
                    self.assertTrue(all(is_closed(part) for part in parts))
                    seen[is_transitive(images)] += 1
        self.assertGreater(min(seen.values()), 20)

    def test_images_that_do_not(self):
        count = 0
        for text in CLOSED:
            gluing = gluing_of(text)
            for degree, seed in itertools.product((2, 3, 4), range(6)):
                images = random_images(len(gluing) + 1, degree, seed)
                found = cover(gluing, images)
                below = {place: len(places) for places in edge_classes(gluing) for place in places}
                longer = [places for places in edge_classes(found)
                          if len(places) > below[(places[0][0] // degree, places[0][1])]]
                self.assertEqual(longer == [], satisfies(group_of(gluing), images))
                count += longer != []
        self.assertGreater(count, 50)

    def test_errors_in_order(self):
        some = [(), ((0,),), ((1, 0),) * 2, ((0, 1, 2),) * 4]
        for gluing, at in wrong_gluings():
            for images in some:
                with self.assertRaises(NotGluing) as caught:
                    cover(gluing, images)
                self.assertEqual(caught.exception.at, at)
        for gluing in apart():
            for images in some + [((0, 1, 2, 3),) * (len(gluing) + 1)]:
                with self.assertRaises(NotJoined):
                    cover(gluing, images)
        for images in no_images() + [((0, 1),) * 3, ((0, 1),) * 5, ((0, 1, 2, 3, 4),) * 4]:
            with self.assertRaises(NotImages):
                cover(ring(3, 1), images)
        for images in (((0, 1),) * 21, ((0,),) * 42, ((0, 0),) * 22):
            with self.assertRaises(NotImages):
                cover(ring(21, 1), images)

    def test_the_greatest_covers(self):
        for n, degree in ((20, 2), (10, 4), (13, 3), (40, 1)):
            images = (tuple(range(degree)),) * (n + 1)
            self.assertEqual(len(cover(ring(n, 1), images)), n * degree)
        for n, degree in ((21, 2), (11, 4), (14, 3), (40, 2)):
            with self.assertRaises(TooLarge):
                cover(ring(n, 1), (tuple(range(degree)),) * (n + 1))


class NumbersTest(unittest.TestCase):
    def test_told_numbers(self):
        told = [(EXAMPLE, [(1, 1, 1), (1, 1, 0), (1, 1, 0)]), (FOURTH, [(1, 1, 1), (2, 2, 1), (4, 2, 0)]),
                (PRISM, [(1, 1, 1), (2, 2, 1), (10, 3, 1)]), (QUATERNIONS, [(1, 1, 1), (4, 4, 3), (10, 4, 0)]),
                (HANDLE, [(1, 1, 1), (2, 2, 1), (6, 3, 1)])]
        for text, expected in told:
            self.assertEqual([cover_numbers(gluing_of(text), degree) for degree in (1, 2, 3)], expected)

    def test_by_the_words(self):
        for text in CLOSED:
            gluing = gluing_of(text)
            for degree in (1, 2, 3):
                classes = classes_of(group_of(gluing), degree)
                whole = [images for images in classes if is_transitive(images)]
                count = len(list(all_images(group_of(gluing), degree)))
                self.assertEqual(cover_numbers(gluing, degree), (count, len(classes), len(whole)))
                self.assertEqual(cover_homologies(gluing, degree),
                                 sorted(homology(told_cover(gluing, images), 1) for images in whole))

    def test_renamed_gluings_and_moves(self):
        for text in (EXAMPLE, FOURTH, HANDLE, ONE_SIDED, QUATERNIONS, PRISM):
            gluing = gluing_of(text)
            for degree in (1, 2, 3):
                expected = cover_numbers(gluing, degree)
                told = cover_homologies(gluing, degree)
                for other in moved_and_renamed(gluing, 5):
                    self.assertEqual(cover_numbers(other, degree), expected)
                    if len(other) * degree <= 12:
                        self.assertEqual(cover_homologies(other, degree), told)

    def test_joins_and_edge_moves(self):
        start = told_gluing(gluing_of(FOURTH), ("split", 0))
        start = told_gluing(start, ("face", 0, 0))
        kinds = set()
        for degree in (2, 3):
            for move in told_moves(len(start)):
                if told_can(start, move) and ADDED[move[0]] < 0:
                    kinds.add(move[0])
                    self.assertEqual(cover_numbers(told_gluing(start, move), degree), cover_numbers(start, degree))
        self.assertIn("edge", kinds)
        split = told_gluing(ring(2, 1), ("split", 1))
        joins = [move for move in told_moves(5) if move[0] == "join" and told_can(split, move)]
        for move in joins:
            self.assertEqual(cover_numbers(told_gluing(split, move), 2), cover_numbers(split, 2))
        self.assertNotEqual(joins, [])

    def test_told_homologies(self):
        # The covers of degree 2 of the space whose group has the quaternions: three with four words.
        self.assertEqual(cover_homologies(gluing_of(QUATERNIONS), 2), [(0, [4])] * 3)
        self.assertEqual(cover_homologies(gluing_of(QUATERNIONS), 1), [(0, [2, 2])])
        self.assertEqual(cover_homologies(gluing_of(FOURTH), 2), [(0, [2])])
        self.assertEqual(cover_homologies(gluing_of(PRISM), 3), [(0, [4])])
        self.assertEqual(cover_homologies(gluing_of(HANDLE), 3), [(1, [])])
        self.assertEqual(cover_homologies(gluing_of(EXAMPLE), 3), [])
        found = cover_homologies(gluing_of(PLANE_CIRCLE), 2)
        self.assertEqual((found, len(set(map(repr, found)))), (sorted(found), 2))
        for k, first in enumerate(found):
            first[1].append(k)
        self.assertNotEqual(cover_homologies(gluing_of(PLANE_CIRCLE), 2), found)

    def test_errors_in_order(self):
        for function in (cover_numbers, cover_homologies):
            for degree in (2, 0):
                for gluing, at in wrong_gluings():
                    with self.assertRaises(NotGluing) as caught:
                        function(gluing, degree)
                    self.assertEqual(caught.exception.at, at)
                for gluing in apart():
                    with self.assertRaises(NotJoined):
                        function(gluing, degree)
                for text in (KLEIN, TORUS, PLANES, TURNED):
                    with self.assertRaises(NotClosed):
                        function(gluing_of(text), degree)
            for n in (2, 7):
                for degree in (0, 4, -1, GREAT, -GREAT):
                    with self.assertRaises(BadNumber):
                        function(ring(n, 1), degree)
            for n, degree in itertools.product((6, 12, 40), (1, 2, 3)):
                with self.assertRaises(TooLarge):
                    function(ring(n, 1), degree)

    def test_covers_that_are_too_large(self):
        # Five tetrahedra and one cover of degree 3, which has fifteen.
        third = told_gluing(gluing_of("1:0123 1:0123 1:0123 1:1203 / 0:0123 0:0123 0:0123 0:2013"), ("split", 0))
        self.assertEqual(cover_numbers(third, 3), (3, 2, 1))
        with self.assertRaises(TooLarge):
            cover_homologies(third, 3)
        self.assertEqual(cover_homologies(third, 1), [(0, [3])])
        self.assertEqual(cover_homologies(third, 2), [])
        self.assertEqual(cover_homologies(told_gluing(gluing_of(FOURTH), ("split", 0)), 3), [])


class SideImagesTest(unittest.TestCase):
    def test_by_the_words(self):
        seen = set()
        for gluing in joined_gluings():
            expected = []
            for k in range(len(gluing) + 1):
                t, faces = loop(gluing, k)
                turn = 1
                for f in faces:
                    turn *= 1 if is_odd(gluing[t][f][1]) else -1
                    t = gluing[t][f][0]
                expected.append((0, 1) if turn == 1 else (1, 0))
            self.assertEqual(side_images(gluing), tuple(expected))
            same = set(expected) == {(0, 1)}
            self.assertEqual(same, sides(gluing) is not None)
            seen.add(same)
        self.assertEqual(seen, {True, False})

    def test_covers_that_have_sides(self):
        for text in (ONE_SIDED, PLANE_CIRCLE):
            for gluing in moved_and_renamed(gluing_of(text), 6):
                images = side_images(gluing)
                self.assertTrue(satisfies(group_of(gluing), images))
                self.assertIsNone(side_signs(gluing))
                found = cover(gluing, images)
                self.assertTrue(is_closed(found))
                self.assertIsNotNone(side_signs(found))

    def test_gluings_with_sides(self):
        for gluing in (gluing_of(QUATERNIONS), ring(5, 2), gluing_of(EXAMPLE)):
            images = side_images(gluing)
            self.assertEqual(images, ((0, 1),) * (len(gluing) + 1))
            self.assertEqual(len(pieces(cover(gluing, images))), 2)

    def test_errors_in_order(self):
        for gluing, at in wrong_gluings():
            with self.assertRaises(NotGluing) as caught:
                side_images(gluing)
            self.assertEqual(caught.exception.at, at)
        for gluing in apart():
            with self.assertRaises(NotJoined):
                side_images(gluing)


if __name__ == "__main__":
    unittest.main()
