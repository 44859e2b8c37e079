"""Promises 160 to 162: images of groups, satisfied, transitive, and their classes."""

import inspect
import itertools
import random
import unittest

from tests.samples import EXAMPLE, HANDLE, PLANE_CIRCLE, QUATERNIONS, gluing_of, ring
from wedgespace.errors import BadNumber, NotGroup, NotImages, NotWord, TooLarge
from wedgespace.groups import group_of
from wedgespace.images import (
    all_images, check_images, classes_of, is_transitive, permutation_of, satisfies)

GREAT = 10 ** 5000

GROUPS = [
    (1, ()), (1, ((1,),)), (1, ((1, 1),)), (1, ((-1, -1, -1),)), (1, ((),)), (2, ()), (2, ((1, 2, -1, -2),)),
    (2, ((1, 1), (2, 2, 2), (1, 2, 1, 2))), (2, ((2,), ())), (3, ((1, 2, 3), (1, -2))), (2, ((1, 2), (2, 1, 1)))]


def told_permutation(images, word):
    """Return where the numbers go, by the words of the document."""
    found = []
    for s in range(len(images[0])):
        for letter in word:
            s = images[letter - 1][s] if letter > 0 else images[-letter - 1].index(s)
        found.append(s)
    return tuple(found)


def told_images(group, degree):
    """Return all images that satisfy a group, in ascending order."""
    count, relators = group
    orders = list(itertools.permutations(range(degree)))
    numbers = tuple(range(degree))
    return [images for images in itertools.product(orders, repeat=count)
            if all(told_permutation(images, word) == numbers for word in relators)]


def told_class(images):
    """Return all images of the class of images."""
    degree = len(images[0])
    return {tuple(tuple(q.index(image[q[s]]) for s in range(degree)) for image in images)
            for q in itertools.permutations(range(degree))}


def no_images():
    """Return tuples of tuples that are no images, whatever their number is."""
    return [
        (), ((),), ((), ()), ((0, 1, 2, 3, 4),), ((0, 1), (0, 1, 2)), ((0,), (1, 0)), ((0, 0),), ((1, 2),), ((1,),),
        ((0, 1), (1, 1)), ((-1, 0),), ((0, GREAT),), ((0, 1, 2), (2, -GREAT, 1)), ((0, 1, 3),), ((1, 0), ())]


def no_groups():
    """Return pairs that are no groups."""
    return [(0, ()), (-1, ()), (-GREAT, ()), (0, ((),)), (0, ((1,),)), (1, ((0,),)), (1, ((2,),)), (2, ((1, 0, 2),)),
            (2, ((1,), (1, -3))), (1, ((1,), (GREAT,))), (2, ((-GREAT, 1),))]


class PermutationTest(unittest.TestCase):
    def test_told_words(self):
        images = ((1, 2, 0), (1, 0, 2))
        told = [((), (0, 1, 2)), ((1,), (1, 2, 0)), ((-1,), (2, 0, 1)), ((1, 2), (0, 2, 1)), ((2, 1), (2, 1, 0)),
                ((1, 1, 1), (0, 1, 2)), ((1, -1), (0, 1, 2)), ((-2, -1), (0, 2, 1))]
        for word, expected in told:
            self.assertEqual(permutation_of(images, word), expected)
        self.assertEqual(permutation_of(((0,),), (1, -1, 1)), (0,))
        self.assertEqual(permutation_of(((1, 2, 3, 0),), (1, 1)), (2, 3, 0, 1))

    def test_by_the_words(self):
        rng = random.Random("images")
        for degree in range(1, 5):
            for count in range(1, 4):
                for _ in range(10):
                    images = tuple(tuple(rng.sample(range(degree), degree)) for _ in range(count))
                    word = tuple(rng.choice((1, -1)) * rng.randint(1, count) for _ in range(rng.randrange(7)))
                    self.assertEqual(permutation_of(images, word), told_permutation(images, word))

    def test_errors_in_order(self):
        for images in no_images():
            for word in ((), (1,), (0,), (GREAT,)):
                with self.assertRaises(NotImages):
                    permutation_of(images, word)
        for word in ((0,), (1, 0), (3,), (-3,), (1, GREAT), (-GREAT,)):
            with self.assertRaises(NotWord):
                permutation_of(((1, 0), (0, 1)), word)


class CheckTest(unittest.TestCase):
    def test_images(self):
        for images in (((0,),), ((1, 0), (0, 1)), ((2, 0, 1),) * 3, ((3, 2, 1, 0),)):
            self.assertIsNone(check_images(len(images), images))

    def test_others(self):
        for images in no_images():
            with self.assertRaises(NotImages):
                check_images(len(images), images)
        for count in (0, 1, 3, -1, GREAT, -GREAT):
            with self.assertRaises(NotImages):
                check_images(count, ((1, 0), (0, 1)))


class SatisfiesTest(unittest.TestCase):
    def test_by_the_words(self):
        seen = {True: 0, False: 0}
        for group in GROUPS:
            for degree in (1, 2, 3):
                satisfied = told_images(group, degree)
                for images in told_images((group[0], ()), degree):
                    self.assertIs(satisfies(group, images), images in satisfied)
                    seen[images in satisfied] += 1
        self.assertGreater(min(seen.values()), 100)

    def test_degree_four(self):
        self.assertIs(satisfies((1, ((1, 1),)), ((1, 0, 3, 2),)), True)
        self.assertIs(satisfies((1, ((1, 1),)), ((1, 2, 3, 0),)), False)

    def test_equal_words_have_the_same_permutation(self):
        count, relators = group_of(gluing_of(QUATERNIONS))
        for images in all_images((count, relators), 3):
            for word in relators:
                for before in ((), (1, -2, 3), (2, 2)):
                    self.assertEqual(permutation_of(images, before + word + (3,)), permutation_of(images, before + (3,)))

    def test_errors_in_order(self):
        for group in no_groups():
            for images in (((1, 0),), ((1, 0), (0, 1)), (), ((0, 0),)):
                with self.assertRaises(NotGroup):
                    satisfies(group, images)
        for images in no_images() + [((1, 0),), ((1, 0),) * 3]:
            with self.assertRaises(NotImages):
                satisfies((2, ((1, 2),)), images)


class TransitiveTest(unittest.TestCase):
    def test_told_images(self):
        told = [(((0,),), True), (((0, 1),), False), (((1, 0),), True), (((0, 1), (1, 0)), True),
                (((1, 2, 0),), True), (((1, 0, 2),), False), (((1, 0, 2), (0, 2, 1)), True),
                (((1, 0, 2), (1, 0, 2)), False), (((1, 0, 3, 2),), False), (((1, 0, 3, 2), (2, 3, 0, 1)), True),
                (((0, 2, 3, 1),), False), (((0, 2, 3, 1), (1, 0, 2, 3)), True), (((0, 1, 2),) * 5, False)]
        for images, expected in told:
            self.assertIs(is_transitive(images), expected)

    def test_by_the_words(self):
        for images in told_images((2, ()), 3):
            words = itertools.chain.from_iterable(itertools.product((1, -1, 2, -2), repeat=k) for k in range(5))
            reached = {told_permutation(images, word)[0] for word in words}
            self.assertIs(is_transitive(images), len(reached) == 3)

    def test_no_images(self):
        for images in no_images():
            with self.assertRaises(NotImages):
                is_transitive(images)


class AllImagesTest(unittest.TestCase):
    def test_by_the_words(self):
        for group in GROUPS:
            for degree in (1, 2, 3):
                self.assertEqual(list(all_images(group, degree)), told_images(group, degree))

    def test_groups_of_gluings(self):
        for gluing in (gluing_of(EXAMPLE), ring(2, 1), ring(3, 1), gluing_of(HANDLE), gluing_of(QUATERNIONS)):
            for degree in (1, 2, 3):
                found = list(all_images(group_of(gluing), degree))
                self.assertEqual(found, told_images(group_of(gluing), degree))
                self.assertEqual(found, sorted(set(found)))

    def test_six_generators(self):
        self.assertEqual(sum(1 for _ in all_images((6, ()), 2)), 64)
        self.assertEqual(sum(1 for _ in all_images((6, ()), 3)), 6 ** 6)
        self.assertEqual(len(list(all_images(group_of(ring(5, 1)), 3))), 1)

    def test_one_by_one(self):
        images = all_images((6, ()), 3)
        self.assertTrue(inspect.isgenerator(images))
        self.assertEqual(next(images), ((0, 1, 2),) * 6)
        self.assertEqual(next(images), ((0, 1, 2),) * 5 + ((0, 2, 1),))

    def test_errors_at_the_first_step(self):
        for group, degree, error in self.wrong_arguments():
            images = all_images(group, degree)
            with self.assertRaises(error):
                next(images)

    def wrong_arguments(self):
        """Yield groups and degrees, with the error that comes first."""
        for group in no_groups():
            for degree in (2, 0, 4):
                yield group, degree, NotGroup
        yield (7, ((8,),)), 4, NotGroup
        for degree in (0, 4, -1, GREAT, -GREAT):
            for count in (1, 7):
                yield (count, ((1,),)), degree, BadNumber
        for count in (7, 41, GREAT):
            yield (count, ((1, -2),)), 1, TooLarge

    def test_errors_of_classes(self):
        for group, degree, error in self.wrong_arguments():
            with self.assertRaises(error):
                classes_of(group, degree)


class ClassesTest(unittest.TestCase):
    def test_by_the_words(self):
        for group in GROUPS + [group_of(gluing_of(text)) for text in (EXAMPLE, QUATERNIONS, PLANE_CIRCLE)]:
            for degree in (1, 2, 3):
                expected = sorted({min(told_class(images)) for images in told_images(group, degree)})
                self.assertEqual(classes_of(group, degree), expected)

    def test_told_classes(self):
        self.assertEqual(classes_of((1, ()), 3), [((0, 1, 2),), ((0, 2, 1),), ((1, 2, 0),)])
        self.assertEqual(classes_of((2, ((1, 2),)), 2), [((0, 1), (0, 1)), ((1, 0), (1, 0))])
        for p, q, numbers in ((3, 1, [1, 1, 2]), (4, 1, [1, 2, 2]), (5, 2, [1, 1, 1])):
            self.assertEqual([len(classes_of(group_of(ring(p, q)), degree)) for degree in (1, 2, 3)], numbers)

    def test_results_are_new_lists(self):
        classes_of((1, ()), 2).clear()
        self.assertEqual(len(classes_of((1, ()), 2)), 2)


if __name__ == "__main__":
    unittest.main()
