"""Promises 142 and 145 to 149: words, groups, loops, names, sums."""

import itertools
import random
import unittest

from tests.samples import (
    EXAMPLE, HANDLE, KLEIN, NO_PERMUTATIONS, ONE_SIDED, PLANE_CIRCLE, PLANES, QUATERNIONS, TORUS, TURNED, gluing_of,
    random_renaming, renamed_by_words, ring, wrong_gluings)
from tests.test_paths import apart, joined_gluings, told_word
from tests.told_moves import ADDED, SPLIT, many_closed_gluings, told_can, told_gluing, told_moves
from wedgespace.chains import border_matrix, cell_counts
from wedgespace.diagonal import divisors
from wedgespace.errors import BadNumber, NotClosed, NotGluing, NotJoined, NotRenaming, NotWord
from wedgespace.groups import cut_word, group_of, inverse_word, loop, names, sums
from wedgespace.homology import homology
from wedgespace.images import all_images, permutation_of
from wedgespace.paths import backwards, branch, circle, generators_of, pairs_of, path_end, path_word
from wedgespace.renaming import same_names
from wedgespace.skeleton import edge_classes

GREAT = 10 ** 5000


def closed_samples():
    told = [gluing_of(text) for text in (EXAMPLE, HANDLE, ONE_SIDED, PLANE_CIRCLE, QUATERNIONS, SPLIT)]
    return told + [ring(5, 2), ring(4, 1)] + list(many_closed_gluings()[::3])


def image_counts(gluing):
    """Return the numbers of images of the degrees 2 and 3 of a group of at most 5 tetrahedra."""
    return [len(list(all_images(group_of(gluing), degree))) for degree in (2, 3)]


class WordsTest(unittest.TestCase):
    def test_inverse_words(self):
        self.assertEqual(inverse_word(()), ())
        self.assertEqual(inverse_word((1, -2, 3)), (-3, 2, -1))
        self.assertEqual(inverse_word((GREAT, 1)), (-1, -GREAT))

    def test_cut_words(self):
        told = [((), ()), ((1,), (1,)), ((1, -1), ()), ((-1, 1), ()), ((1, 1), (1, 1)), ((1, 2, -2, -1), ()),
                ((1, 2, -1, -2), (1, 2, -1, -2)), ((1, -1, 1), (1,)), ((3, 1, 2, -2, -1, 3), (3, 3)),
                ((2, -2, -2, 2, 5), (5,)), ((GREAT, 7, -7, -GREAT, 1), (1,))]
        for word, expected in told:
            self.assertEqual(cut_word(word), expected)

    def test_the_order_of_the_cuts(self):
        rng = random.Random("words")
        for _ in range(200):
            word = tuple(rng.choice((1, -1, 2, -2)) for _ in range(rng.randrange(14)))
            for _ in range(3):
                left = list(word)
                while True:
                    places = [k for k in range(len(left) - 1) if left[k] + left[k + 1] == 0]
                    if not places:
                        break
                    k = rng.choice(places)
                    del left[k:k + 2]
                self.assertEqual(cut_word(word), tuple(left))
            self.assertEqual(cut_word(word + inverse_word(word)), ())

    def test_no_words(self):
        for word in ((0,), (1, 0), (0, 1, -1), (1, -1, 0), (GREAT, 0, -GREAT)):
            for function in (inverse_word, cut_word):
                with self.assertRaises(NotWord):
                    function(word)


class GroupTest(unittest.TestCase):
    def test_told_groups(self):
        self.assertEqual(group_of(gluing_of(EXAMPLE)), (2, ((2,), (-1, -2, 1, 2), (1,))))
        count, relators = group_of(ring(2, 1))
        self.assertEqual((count, len(relators)), (3, 4))
        # Around the axis: forwards through the pair 2, then backwards through the pair 3.
        self.assertEqual(relators[0], (2, -3))

    def test_by_the_words(self):
        for gluing in closed_samples():
            count, relators = group_of(gluing)
            self.assertEqual((count, type(relators)), (len(gluing) + 1, tuple))
            expected = [told_word(gluing, circle(gluing, *places[0])) for places in edge_classes(gluing)]
            self.assertEqual(list(relators), expected)

    def test_rings(self):
        # As many solutions of x^order = 1 as there are among the permutations of 2 and 3 numbers.
        solutions = {1: [1, 1], 2: [2, 4], 3: [1, 3], 4: [2, 4], 5: [1, 1]}
        for p, q, order in ((1, 0, 1), (2, 0, 1), (2, 1, 2), (3, 0, 1), (3, 1, 3), (4, 1, 4), (4, 2, 2), (5, 2, 5)):
            self.assertEqual(image_counts(ring(p, q)), solutions[order])

    def test_other_groups(self):
        self.assertEqual(image_counts(gluing_of(HANDLE)), [2, 6])
        self.assertEqual(image_counts(gluing_of(ONE_SIDED)), [2, 6])
        self.assertEqual(image_counts(gluing_of(QUATERNIONS)), [4, 10])
        # Pairs of permutations that commute, the square of the first one being 1.
        self.assertEqual(image_counts(gluing_of(PLANE_CIRCLE)), [4, 12])

    def test_moves_and_renamings(self):
        for gluing in (gluing_of(HANDLE), gluing_of(QUATERNIONS), ring(3, 1), ring(2, 1), gluing_of(PLANE_CIRCLE)):
            expected = image_counts(gluing)
            self.assertEqual(image_counts(renamed_by_words(gluing, random_renaming(len(gluing), 1))), expected)
            for move in told_moves(len(gluing)):
                # Five tetrahedra have the six generators up to which images are listed.
                if told_can(gluing, move) and len(gluing) + ADDED[move[0]] <= 5:
                    self.assertEqual(image_counts(told_gluing(gluing, move)), expected)

    def test_words_around_edges_on_different_sides(self):
        # The circle of each edge place has a word that is equal to the empty one, not only the relators.
        for gluing in (gluing_of(QUATERNIONS), ring(3, 1), gluing_of(PLANE_CIRCLE), gluing_of(HANDLE)):
            for images in all_images(group_of(gluing), 3):
                for t, e in itertools.product(range(len(gluing)), range(6)):
                    word = path_word(gluing, circle(gluing, t, e))
                    self.assertEqual(permutation_of(images, word), (0, 1, 2))
                    # The same around the edge from one of its tetrahedra to another one.
                    start, faces = circle(gluing, t, e)
                    for k in range(len(faces)):
                        there = (start, faces[:k])
                        middle = path_end(gluing, there)
                        other = backwards(gluing, (middle, faces[k:]))
                        self.assertEqual(permutation_of(images, path_word(gluing, there)),
                                         permutation_of(images, path_word(gluing, other)))

    def test_errors_in_order(self):
        for gluing, at in wrong_gluings():
            with self.assertRaises(NotGluing) as caught:
                group_of(gluing)
            self.assertEqual(caught.exception.at, at)
        for gluing in apart():
            with self.assertRaises(NotJoined):
                group_of(gluing)
        for text in (KLEIN, TORUS, PLANES, TURNED):
            with self.assertRaises(NotClosed):
                group_of(gluing_of(text))


class LoopTest(unittest.TestCase):
    def test_loops(self):
        for gluing in joined_gluings():
            for k, number in enumerate(generators_of(gluing)):
                path = loop(gluing, k)
                self.assertEqual((path[0], path_end(gluing, path)), (0, 0))
                self.assertEqual(path_word(gluing, path), (k + 1,))
                t, f, u, _ = pairs_of(gluing)[number]
                there, back = branch(gluing, t), backwards(gluing, branch(gluing, u))
                self.assertEqual(path, (0, there[1] + (f,) + back[1]))

    def test_errors_in_order(self):
        for k in (-1, 4, 5, GREAT, -GREAT):
            with self.assertRaises(BadNumber):
                loop(ring(3, 1), k)
        for k in (0, -1):
            for gluing, at in wrong_gluings():
                with self.assertRaises(NotGluing) as caught:
                    loop(gluing, k)
                self.assertEqual(caught.exception.at, at)
            for gluing in apart():
                with self.assertRaises(NotJoined):
                    loop(gluing, k)


class NamesTest(unittest.TestCase):
    def told_names(self, gluing, renaming):
        """Return the names, by the words of the document."""
        other = renamed_by_words(gluing, renaming)
        found = []
        for k in range(len(gluing) + 1):
            t, faces = loop(gluing, k)
            there = branch(other, renaming[0][0])
            middle = []
            for f in faces:
                middle.append(renaming[t][1][f])
                t = gluing[t][f][0]
            back = backwards(other, there)
            found.append(path_word(other, (0, there[1] + tuple(middle) + back[1])))
        return tuple(found)

    def test_a_renaming_that_changes_nothing(self):
        for gluing in joined_gluings():
            expected = tuple((k + 1,) for k in range(len(gluing) + 1))
            self.assertEqual(names(gluing, same_names(len(gluing))), expected)

    def test_other_renamings(self):
        for k, gluing in enumerate(joined_gluings()):
            for seed in range(3):
                renaming = random_renaming(len(gluing), f"names {k} {seed}")
                self.assertEqual(names(gluing, renaming), self.told_names(gluing, renaming))

    def test_equal_words_become_equal_words(self):
        for gluing in (gluing_of(QUATERNIONS), ring(3, 1), gluing_of(PLANE_CIRCLE), gluing_of(HANDLE), ring(4, 1)):
            images = list(all_images(group_of(gluing), 3))
            for seed in range(3):
                renaming = random_renaming(len(gluing), f"equal {seed}")
                told = names(gluing, renaming)
                others = all_images(group_of(renamed_by_words(gluing, renaming)), 3)
                # Images of the renamed group give images of the group, each exactly once.
                back = [tuple(permutation_of(other, name) for name in told) for other in others]
                self.assertEqual(sorted(back), images)

    def test_errors_in_order(self):
        for gluing, at in wrong_gluings():
            for renaming in ((), same_names(1)):
                with self.assertRaises(NotGluing) as caught:
                    names(gluing, renaming)
                self.assertEqual(caught.exception.at, at)
        for gluing in apart():
            for renaming in ((), same_names(len(gluing))):
                with self.assertRaises(NotJoined):
                    names(gluing, renaming)
        wrong = [(), same_names(2), same_names(4), ((0, (0, 1, 2, 3)),) * 3]
        wrong += [same_names(3)[:2] + ((2, p),) for p in NO_PERMUTATIONS]
        for renaming in wrong:
            with self.assertRaises(NotRenaming):
                names(ring(3, 1), renaming)


class SumsTest(unittest.TestCase):
    def test_told_sums(self):
        self.assertEqual(sums(3, ()), [0, 0, 0])
        self.assertEqual(sums(3, (1, -3, 1, 2, -2, -2)), [2, -1, -1])
        self.assertEqual(sums(0, ()), [])

    def test_circles_of_one_class(self):
        # The circles of all edge places of a class go around the same edge, in one sense or the other.
        for gluing in closed_samples():
            for places in edge_classes(gluing):
                count = len(gluing) + 1
                first = sums(count, path_word(gluing, circle(gluing, *places[0])))
                for t, e in places:
                    found = sums(count, path_word(gluing, circle(gluing, t, e)))
                    self.assertIn(found, (first, [-x for x in first]))

    def test_sums_of_the_relators_tell_the_homology(self):
        for gluing in closed_samples():
            count, relators = group_of(gluing)
            rows = [sums(count, word) for word in relators]
            found = divisors(rows, count)
            border_divisors = divisors(border_matrix(gluing, 2), cell_counts(gluing)[1])
            self.assertEqual([d for d in found if d > 1], [d for d in border_divisors if d > 1])
            self.assertEqual(homology(gluing, 1), (count - len(found), [d for d in found if d > 1]))

    def test_results_are_new_lists(self):
        sums(2, (1,)).append(7)
        self.assertEqual(sums(2, (1,)), [1, 0])

    def test_errors_in_order(self):
        for count in (-1, -GREAT):
            for word in ((), (0,), (1,)):
                with self.assertRaises(BadNumber):
                    sums(count, word)
        for count, word in ((0, (1,)), (0, (-1,)), (2, (0,)), (2, (3,)), (2, (1, -3)), (2, (GREAT,)), (2, (-GREAT, 1))):
            with self.assertRaises(NotWord):
                sums(count, word)


if __name__ == "__main__":
    unittest.main()
