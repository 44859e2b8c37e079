"""Promise 1: permutations."""

import unittest

from tests import samples
from tests.samples import NO_PERMUTATIONS, PERMUTATIONS
from wedgespace.errors import BadNumber
from wedgespace.perms import (after, all_permutations, index_of, inverse, is_odd, is_permutation)


class PermutationsTest(unittest.TestCase):
    def test_is_permutation(self):
        for p in PERMUTATIONS:
            self.assertIs(is_permutation(p), True)
        for p in NO_PERMUTATIONS:
            self.assertIs(is_permutation(p), False)

    def test_product_takes_the_first_one_first(self):
        self.assertEqual(after((1, 2, 3, 0), (0, 2, 1, 3)), (2, 1, 3, 0))
        self.assertEqual(after((0, 2, 1, 3), (1, 2, 3, 0)), (1, 3, 2, 0))
        for one in PERMUTATIONS:
            for other in PERMUTATIONS:
                both = after(one, other)
                self.assertIsInstance(both, tuple)
                for i in range(4):
                    self.assertEqual(both[i], other[one[i]])

    def test_inverse(self):
        self.assertEqual(inverse((1, 2, 3, 0)), (3, 0, 1, 2))
        self.assertEqual(inverse((2, 0, 1, 3)), (1, 2, 0, 3))
        for one in PERMUTATIONS:
            back = inverse(one)
            self.assertIsInstance(back, tuple)
            self.assertEqual([back[one[i]] for i in range(4)], [0, 1, 2, 3])

    def test_odd_and_even(self):
        self.assertIs(is_odd((0, 1, 2, 3)), False)
        self.assertIs(is_odd((0, 1, 3, 2)), True)
        self.assertIs(is_odd((3, 1, 2, 0)), True)
        self.assertIs(is_odd((1, 2, 0, 3)), False)
        self.assertIs(is_odd((1, 2, 3, 0)), True)
        self.assertIs(is_odd((3, 2, 1, 0)), False)
        for one in PERMUTATIONS:
            self.assertIs(is_odd(one), samples.is_odd(one))

    def test_all_in_order_with_their_indexes(self):
        told = all_permutations()
        self.assertEqual(told, PERMUTATIONS)
        self.assertEqual(len(told), 24)
        self.assertEqual([index_of(one) for one in told], list(range(24)))
        self.assertEqual(index_of((0, 1, 3, 2)), 1)
        self.assertEqual(index_of((3, 2, 1, 0)), 23)

    def test_each_list_is_a_new_one(self):
        all_permutations().clear()
        self.assertEqual(len(all_permutations()), 24)

    def test_tuples_that_are_no_permutations(self):
        good = (1, 2, 3, 0)
        for bad in NO_PERMUTATIONS:
            for call in (inverse, is_odd, index_of):
                with self.assertRaises(BadNumber):
                    call(bad)
            for one, other in ((bad, good), (good, bad), (bad, bad)):
                with self.assertRaises(BadNumber):
                    after(one, other)


if __name__ == "__main__":
    unittest.main()
