"""Promises 40 to 42: renamings."""

import itertools
import unittest

from tests.samples import (
    EXAMPLE, KLEIN, NO_PERMUTATIONS, PERMUTATIONS, gluing_of, inverse, open_gluings, product,
    random_renaming, renamed_by_words, ring, sample_gluings, wrong_gluings)
from wedgespace.errors import BadNumber, NotGluing, NotRenaming
from wedgespace.gluings import is_gluing, pieces, sides
from wedgespace.links import is_closed, link_numbers
from wedgespace.renaming import (
    is_renaming, is_renaming_to, joined_renamings, renamed, same_names, undone_renaming)
from wedgespace.skeleton import corner_classes, degrees, turned_edges

SAME = (0, 1, 2, 3)
GOOD = ((2, (1, 2, 3, 0)), (0, (0, 1, 3, 2)), (1, SAME))


def wrong_renamings():
    """Return tuples of pairs that are no renamings for 3 tetrahedra."""
    found = [(), GOOD[:2], GOOD + ((3, SAME),), GOOD + ((0, SAME),), GOOD + GOOD]
    for u in (0, 1, -1, 3, 10 ** 30, -10 ** 30):
        found.append(((u, SAME),) + GOOD[1:])
    for u in (2, 1, -1, 3, 10 ** 30):
        found.append((GOOD[0], (u, SAME), GOOD[2]))
    found.append(((1, SAME), (2, SAME), (3, SAME)))
    found.append(((-1, SAME), (0, SAME), (1, SAME)))
    for p in NO_PERMUTATIONS:
        found.append(GOOD[:2] + ((1, p),))
        found.append(((2, p),) + GOOD[1:])
    return found


class IsRenamingTest(unittest.TestCase):
    def test_renamings(self):
        self.assertIs(is_renaming(3, GOOD), True)
        for n in (1, 2, 7, 40):
            for seed in range(5):
                self.assertIs(is_renaming(n, random_renaming(n, seed)), True)

    def test_other_numbers_of_tetrahedra(self):
        for n in (0, 1, 2, 4, -3, 10 ** 30):
            self.assertIs(is_renaming(n, GOOD), False)

    def test_each_reason_to_fail(self):
        for wrong in wrong_renamings():
            self.assertIs(is_renaming(3, wrong), False)


class RenamedTest(unittest.TestCase):
    def test_told_renaming(self):
        gluing = gluing_of(KLEIN)
        # The corners 0 to 3 become 1, 2, 3, 0, and so do the faces.
        self.assertEqual(renamed(gluing, ((0, (1, 2, 3, 0)),)),
                         gluing_of("0:3102 0:0231 0:0312 0:2130"))
        self.assertEqual(renamed(gluing, ((0, (0, 1, 3, 2)),)),
                         gluing_of("0:1320 0:3021 0:0231 0:0312"))
        two = gluing_of("1:0123 1:0123 1:1230 1:3012 / 0:0123 0:0123 0:1230 0:3012")
        # The faces of the second one become 1, 2, 3, 0; it becomes the first one.
        self.assertEqual(
            renamed(two, ((1, SAME), (0, (1, 2, 3, 0)))),
            gluing_of("1:2301 1:3012 1:3012 1:0123 / 0:1230 0:1230 0:2301 0:0123"))

    def test_renamed_by_the_words(self):
        for gluing in sample_gluings():
            for seed in range(3):
                renaming = random_renaming(len(gluing), seed)
                self.assertEqual(renamed(gluing, renaming), renamed_by_words(gluing, renaming))

    def test_what_renamings_keep(self):
        def kept(gluing):
            tetrahedra = len(gluing)
            found = [tetrahedra, len(pieces(gluing)), len(corner_classes(gluing)),
                     sorted(degrees(gluing)), sorted(link_numbers(gluing)), is_closed(gluing),
                     len(turned_edges(gluing))]
            return found + [len(pieces(gluing)) > 1 or sides(gluing) is None]
        for gluing in sample_gluings() + open_gluings():
            other = renamed(gluing, random_renaming(len(gluing), "kept"))
            self.assertTrue(is_gluing(other))
            self.assertEqual(kept(other), kept(gluing))

    def test_products_and_inverses(self):
        for gluing in sample_gluings():
            n = len(gluing)
            one, other = random_renaming(n, 1), random_renaming(n, 2)
            both = joined_renamings(one, other)
            self.assertEqual(renamed(renamed(gluing, one), other), renamed(gluing, both))
            self.assertEqual(renamed(renamed(gluing, one), undone_renaming(one)), gluing)
            self.assertEqual(renamed(gluing, same_names(n)), gluing)

    def test_errors_in_order(self):
        for gluing, at in wrong_gluings():
            for renaming in (random_renaming(5, 0), ((0, SAME),) * 5, ()):
                with self.assertRaises(NotGluing) as caught:
                    renamed(gluing, renaming)
                self.assertEqual(caught.exception.at, at)
        for wrong in wrong_renamings():
            with self.assertRaises(NotRenaming):
                renamed(ring(3, 1), wrong)
        with self.assertRaises(NotRenaming):
            renamed(ring(2, 1), GOOD)


class ProductsTest(unittest.TestCase):
    def test_same_names(self):
        self.assertEqual(same_names(1), ((0, SAME),))
        self.assertEqual(same_names(3), ((0, SAME), (1, SAME), (2, SAME)))
        self.assertEqual(same_names(40)[39], (39, SAME))
        for n in (0, 41, -1, 10 ** 30):
            with self.assertRaises(BadNumber):
                same_names(n)

    def test_product_takes_the_first_one_first(self):
        other = ((1, (3, 1, 2, 0)), (2, (0, 2, 1, 3)), (0, (1, 0, 2, 3)))
        self.assertEqual(joined_renamings(GOOD, other),
                         ((0, (0, 2, 3, 1)), (1, (3, 1, 0, 2)), (2, (0, 2, 1, 3))))

    def test_products_by_the_words(self):
        for n in (1, 2, 5, 40):
            for seed in range(10):
                one, other = random_renaming(n, seed), random_renaming(n, -1 - seed)
                both = joined_renamings(one, other)
                for t in range(n):
                    u, p = one[t]
                    v, q = other[u]
                    self.assertEqual(both[t], (v, product(p, q)))

    def test_inverse(self):
        self.assertEqual(undone_renaming(GOOD), ((1, (0, 1, 3, 2)), (2, SAME), (0, (3, 0, 1, 2))))
        for n in (1, 2, 5, 40):
            for seed in range(10):
                one = random_renaming(n, seed)
                back = undone_renaming(one)
                self.assertEqual(joined_renamings(one, back), same_names(n))
                self.assertEqual(joined_renamings(back, one), same_names(n))
                for t, (u, p) in enumerate(one):
                    self.assertEqual(back[u], (t, inverse(p)))

    def test_wrong_renamings(self):
        for wrong in wrong_renamings():
            with self.assertRaises(NotRenaming):
                joined_renamings(GOOD, wrong)
            with self.assertRaises(NotRenaming):
                joined_renamings(wrong, GOOD)
            # These two are wrong for 3 tetrahedra alone.
            if wrong in ((), GOOD + ((3, SAME),)):
                continue
            with self.assertRaises(NotRenaming):
                undone_renaming(wrong)
            with self.assertRaises(NotRenaming):
                joined_renamings(wrong, wrong)

    def test_different_numbers_of_tetrahedra(self):
        for one, other in itertools.permutations([same_names(n) for n in (1, 2, 3, 40)], 2):
            with self.assertRaises(NotRenaming):
                joined_renamings(one, other)


class IsRenamingToTest(unittest.TestCase):
    def test_all_renamings_of_one_tetrahedron(self):
        gluing = gluing_of(KLEIN)
        for p in PERMUTATIONS:
            other = renamed_by_words(gluing, ((0, p),))
            for q in PERMUTATIONS:
                expected = renamed_by_words(gluing, ((0, q),)) == other
                self.assertIs(is_renaming_to(gluing, other, ((0, q),)), expected)

    def test_renamed_gluings(self):
        for gluing in sample_gluings():
            renaming = random_renaming(len(gluing), "to")
            other = renamed_by_words(gluing, renaming)
            self.assertIs(is_renaming_to(gluing, other, renaming), True)
            self.assertIs(is_renaming_to(other, gluing, undone_renaming(renaming)), True)

    def test_no_renaming(self):
        gluing = ring(3, 1)
        for wrong in wrong_renamings():
            self.assertIs(is_renaming_to(gluing, gluing, wrong), False)
        self.assertIs(is_renaming_to(gluing, ring(3, 0), same_names(3)), False)
        self.assertIs(is_renaming_to(gluing, ring(2, 1), same_names(3)), False)
        self.assertIs(is_renaming_to(gluing, ring(2, 1), same_names(2)), False)
        self.assertIs(is_renaming_to(ring(2, 1), gluing, same_names(3)), False)
        self.assertIs(is_renaming_to(gluing, gluing, same_names(3)), True)

    def test_wrong_gluings(self):
        worse = gluing_of("0:1023 0:1023 0:1023 0:1023")
        for gluing, at in wrong_gluings():
            for one, other in ((gluing, worse), (gluing, gluing_of(EXAMPLE)), (gluing_of(EXAMPLE), gluing)):
                for renaming in ((), same_names(1), ((7, (0, 0, 0, 0)),)):
                    with self.assertRaises(NotGluing) as caught:
                        is_renaming_to(one, other, renaming)
                    self.assertEqual(caught.exception.at, at)


if __name__ == "__main__":
    unittest.main()
