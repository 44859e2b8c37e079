"""Promises 140 to 144 and 146: pairs, the tree, generators, paths, branches, circles."""

import random
import unittest

from tests.samples import (
    EXAMPLE, HANDLE, KLEIN, ONE_SIDED, PLANES, QUATERNIONS, TORUS, TURNED, gluing_of, placed, random_gluing,
    random_renaming, renamed_by_words, ring, wrong_gluings)
from tests.told_moves import EDGES, many_closed_gluings, others_than
from wedgespace.errors import BadNumber, NotClosed, NotGluing, NotJoined
from wedgespace.gluings import is_joined
from wedgespace.paths import (
    backwards, branch, circle, generators_of, pairs_of, path_end, path_word, tree_pairs)
from wedgespace.skeleton import around, edge_classes

GREAT = 10 ** 5000


def joined_gluings():
    """Return joined gluings, closed and not, of one and of several tetrahedra."""
    told = [gluing_of(text) for text in (EXAMPLE, HANDLE, KLEIN, ONE_SIDED, PLANES, QUATERNIONS, TORUS, TURNED)]
    others = [random_gluing(n, seed) for n in (2, 3, 5, 9) for seed in range(4)]
    turned = [renamed_by_words(ring(n, 2), random_renaming(n, "paths")) for n in (3, 5, 8)]
    return [one for one in told + others + turned + list(many_closed_gluings()[::4]) if is_joined(one)]


def apart():
    """Return gluings that are in several pieces."""
    return [placed([ring(1, 0), ring(2, 1)], [0, 1, 2]), placed([ring(3, 1), gluing_of(KLEIN)], [3, 1, 0, 2])]


def told_tree(gluing):
    """Return the crossed places of the tree, by the words of the document."""
    queue, crossed = [0], []
    for t in queue:
        for f in range(4):
            u = gluing[t][f][0]
            if u not in queue:
                queue.append(u)
                crossed.append((t, f))
    return crossed


def told_letters(gluing):
    """Return the letters of all places, 0 for those of the tree."""
    tree = told_tree(gluing)
    letters, count = {}, 0
    for t, f, u, g in told_pairs(gluing):
        if (t, f) in tree or (u, g) in tree:
            letters[(t, f)] = letters[(u, g)] = 0
        else:
            count += 1
            letters[(t, f)], letters[(u, g)] = count, -count
    return letters


def told_pairs(gluing):
    sides = sorted({min(((t, f), (u, p[f])), ((u, p[f]), (t, f)))
                    for t, row in enumerate(gluing) for f, (u, p) in enumerate(row)})
    return [(*front, *back) for front, back in sides]


def told_word(gluing, path):
    t, word = path[0], []
    for f in path[1]:
        word.append(told_letters(gluing)[(t, f)])
        t = gluing[t][f][0]
    return tuple(letter for letter in word if letter)


def random_path(gluing, seed):
    rng = random.Random(f"path {seed}")
    return rng.randrange(len(gluing)), tuple(rng.randrange(4) for _ in range(rng.randrange(9)))


class PairsTest(unittest.TestCase):
    def test_told_pairs(self):
        self.assertEqual(pairs_of(gluing_of(EXAMPLE)), [(0, 0, 0, 1), (0, 2, 0, 3)])
        self.assertEqual(pairs_of(ring(2, 1)), [(0, 0, 1, 1), (0, 1, 1, 0), (0, 2, 1, 3), (0, 3, 1, 2)])
        self.assertEqual(pairs_of(gluing_of(ONE_SIDED)), [(0, 0, 1, 0), (0, 1, 1, 1), (0, 2, 1, 3), (0, 3, 1, 2)])

    def test_told_trees(self):
        self.assertEqual((tree_pairs(gluing_of(EXAMPLE)), generators_of(gluing_of(EXAMPLE))), ([], [0, 1]))
        self.assertEqual((tree_pairs(ring(2, 1)), generators_of(ring(2, 1))), ([0], [1, 2, 3]))
        # The pairs of the ring of 3 and 0: 0 0-0 1, 0 2-1 3, 0 3-2 2, 1 0-1 1, 1 2-2 3, 2 0-2 1.
        self.assertEqual((tree_pairs(ring(3, 0)), generators_of(ring(3, 0))), ([1, 2], [0, 3, 4, 5]))

    def test_by_the_words(self):
        for gluing in joined_gluings():
            n = len(gluing)
            pairs, tree, generators = pairs_of(gluing), tree_pairs(gluing), generators_of(gluing)
            self.assertEqual(pairs, told_pairs(gluing))
            crossed = told_tree(gluing)
            self.assertEqual(tree, [k for k, (t, f, u, g) in enumerate(pairs) if {(t, f), (u, g)} & set(crossed)])
            self.assertEqual((len(pairs), len(tree), len(generators)), (2 * n, n - 1, n + 1))
            self.assertEqual(sorted(tree + generators), list(range(2 * n)))
            self.assertEqual(generators, sorted(generators))

    def test_lists_may_be_changed(self):
        for function in (pairs_of, tree_pairs, generators_of):
            first = list(function(ring(3, 1)))
            function(ring(3, 1)).clear()
            self.assertEqual(function(ring(3, 1)), first)

    def test_errors_in_order(self):
        calls = [pairs_of, tree_pairs, generators_of]
        for path in ((0, ()), (0, (0, 1)), (-1, (7,))):
            calls += [lambda gluing, path=path: path_end(gluing, path), lambda gluing, path=path: path_word(gluing, path),
                      lambda gluing, path=path: backwards(gluing, path)]
        for t in (0, -1):
            calls += [lambda gluing, t=t: branch(gluing, t), lambda gluing, t=t: circle(gluing, t, t)]
        for call in calls:
            for gluing, at in wrong_gluings():
                with self.assertRaises(NotGluing) as caught:
                    call(gluing)
                self.assertEqual(caught.exception.at, at)
            for gluing in apart():
                with self.assertRaises(NotJoined):
                    call(gluing)


class PathsTest(unittest.TestCase):
    def test_told_paths(self):
        gluing = ring(2, 1)
        self.assertEqual(path_end(gluing, (1, ())), 1)
        self.assertEqual(path_end(gluing, (1, (0, 2, 3))), 0)
        self.assertEqual(path_word(gluing, (1, ())), ())
        # From 1: backwards through the pair 1, forwards through the pair 2, backwards through 3 and 2.
        self.assertEqual(path_word(gluing, (1, (0, 2, 2, 2, 3))), (-1, 2, -3, 2, -2))
        # The pair 0 belongs to the tree.
        self.assertEqual(path_word(gluing, (0, (0, 1, 1))), (1,))
        self.assertEqual(path_word(gluing, (0, (0, 1))), ())
        self.assertEqual(backwards(gluing, (1, (0, 2, 2))), (0, (3, 3, 1)))

    def test_by_the_words(self):
        for k, gluing in enumerate(joined_gluings()):
            for seed in range(8):
                path = random_path(gluing, f"{k} {seed}")
                t = path[0]
                for f in path[1]:
                    t = gluing[t][f][0]
                self.assertEqual(path_end(gluing, path), t)
                self.assertEqual(path_word(gluing, path), told_word(gluing, path))

    def test_backwards(self):
        for k, gluing in enumerate(joined_gluings()):
            for seed in range(8):
                path = random_path(gluing, f"{k} {seed}")
                back = backwards(gluing, path)
                self.assertEqual(back[0], path_end(gluing, path))
                self.assertEqual(path_end(gluing, back), path[0])
                self.assertEqual(backwards(gluing, back), path)
                word = path_word(gluing, path)
                self.assertEqual(path_word(gluing, back), tuple(-letter for letter in word[::-1]))
                both = (path[0], path[1] + back[1])
                self.assertEqual(path_end(gluing, both), path[0])

    def test_no_paths(self):
        for function in (path_end, path_word, backwards):
            for gluing in (ring(3, 1), gluing_of(KLEIN)):
                n = len(gluing)
                for path in ((-1, ()), (n, ()), (GREAT, (0,)), (-GREAT, ()), (0, (4,)), (0, (-1,)),
                             (0, (0, 1, GREAT)), (0, (0, -GREAT, 1)), (n, (4,))):
                    with self.assertRaises(BadNumber):
                        function(gluing, path)


class BranchTest(unittest.TestCase):
    def test_branches(self):
        for gluing in joined_gluings():
            self.assertEqual(branch(gluing, 0), (0, ()))
            tree = told_tree(gluing)
            for t in range(len(gluing)):
                path = branch(gluing, t)
                self.assertEqual(path_end(gluing, path), t)
                self.assertEqual(path_word(gluing, path), ())
                here, crossed = 0, []
                self.assertEqual(path[0], 0)
                for f in path[1]:
                    crossed.append((here, f))
                    here = gluing[here][f][0]
                # The queue crosses each pair away from the tetrahedron 0, and so does a branch.
                self.assertTrue(set(crossed) <= set(tree))
                self.assertEqual(len(set(crossed)), len(crossed))

    def test_told_branches(self):
        self.assertEqual([branch(ring(5, 0), t) for t in range(5)],
                         [(0, ()), (0, (2,)), (0, (2, 2)), (0, (3, 3)), (0, (3,))])

    def test_no_tetrahedron(self):
        for t in (-1, 3, GREAT, -GREAT):
            with self.assertRaises(BadNumber):
                branch(ring(3, 1), t)


class CircleTest(unittest.TestCase):
    def test_told_circles(self):
        gluing = gluing_of(EXAMPLE)
        self.assertEqual(circle(gluing, 0, 0), (0, (2,)))
        self.assertEqual(circle(gluing, 0, 1), (0, (1, 3, 0, 2)))
        self.assertEqual(circle(gluing, 0, 5), (0, (0,)))
        self.assertEqual([path_word(gluing, circle(gluing, 0, e)) for e in (0, 1, 5)],
                         [(2,), (-1, -2, 1, 2), (1,)])
        self.assertEqual(circle(ring(5, 2), 3, 0), (3, (2, 2, 2, 2, 2)))

    def test_circles_of_all_edge_places(self):
        for gluing in many_closed_gluings():
            for places in edge_classes(gluing):
                for t, e in places:
                    a, b = EDGES[e]
                    c, _ = others_than(a, b)
                    start, faces = circle(gluing, t, e)
                    self.assertEqual((start, len(faces)), (t, len(places)))
                    self.assertEqual(list(faces), [face for _, _, _, face in around(gluing, t, a, b, c)])
                    self.assertEqual(path_end(gluing, (start, faces)), t)

    def test_errors_in_order(self):
        for gluing in [gluing_of(text) for text in (KLEIN, TORUS, PLANES, TURNED)]:
            for t, e in ((0, 0), (-1, 0), (0, 6)):
                with self.assertRaises(NotClosed):
                    circle(gluing, t, e)
        for t, e in ((-1, 0), (3, 0), (0, -1), (0, 6), (GREAT, 0), (0, -GREAT), (3, 6)):
            with self.assertRaises(BadNumber):
                circle(ring(3, 1), t, e)


if __name__ == "__main__":
    unittest.main()
