"""Promises 2 to 6: gluings, pieces, mirror images, orientation."""

import random
import unittest

from tests.samples import (
    EXAMPLE, KLEIN, ONE_SIDED, PERMUTATIONS, TORUS, all_of_one, closed_gluings, gluing_of, inverse,
    is_odd, placed, product, random_gluing, random_renaming, renamed_by_words, ring,
    sample_gluings, with_entry, wrong_gluings)
from wedgespace.errors import NotGluing, NotJoined, TooLarge
from wedgespace.gluings import (
    check_gluing, is_gluing, is_joined, is_oriented, mirror, pieces, sides, union)


def first_wrong(gluing):
    """Return the number of the first wrong entry, by the words of promise 3, or None."""
    for t, row in enumerate(gluing):
        for f, (u, p) in enumerate(row):
            right = u in range(len(gluing)) and p in PERMUTATIONS
            right = right and (u, p[f]) != (t, f)
            if not (right and gluing[u][p[f]] == (t, inverse(p))):
                return 4 * t + f
    return None


class RightGluingsTest(unittest.TestCase):
    def test_right_gluings(self):
        for gluing in sample_gluings() + all_of_one():
            self.assertIs(is_gluing(gluing), True)
            self.assertIsNone(check_gluing(gluing))

    def test_all_of_one_tetrahedron(self):
        self.assertEqual(len(set(all_of_one())), 108)

    def test_forty_tetrahedra_but_not_more(self):
        self.assertIs(is_gluing(ring(40, 3)), True)
        self.assertIs(is_gluing(ring(41, 3)), False)
        self.assertIs(is_gluing(()), False)

    def test_the_first_entry_that_is_not_right(self):
        for gluing, at in wrong_gluings():
            self.assertIs(is_gluing(gluing), False)
            with self.assertRaises(NotGluing) as caught:
                check_gluing(gluing)
            self.assertEqual(caught.exception.at, at)

    def test_changed_entries(self):
        rng = random.Random(3)
        for gluing in [ring(3, 1), ring(1, 0), random_gluing(4, 1), random_gluing(40, 2)]:
            for _ in range(60):
                t, f = rng.randrange(len(gluing)), rng.randrange(4)
                entry = (rng.randrange(-1, len(gluing) + 1), rng.choice(PERMUTATIONS))
                changed = with_entry(gluing, t, f, entry)
                at = first_wrong(changed)
                self.assertIs(is_gluing(changed), at is None)
                if at is not None:
                    with self.assertRaises(NotGluing) as caught:
                        check_gluing(changed)
                    self.assertEqual(caught.exception.at, at)

    def test_all_functions_raise(self):
        for gluing, at in wrong_gluings():
            for call in (is_joined, pieces, mirror, is_oriented, sides):
                with self.assertRaises(NotGluing) as caught:
                    call(gluing)
                self.assertEqual(caught.exception.at, at)


class PiecesTest(unittest.TestCase):
    def test_one_piece(self):
        for gluing in [gluing_of(EXAMPLE), ring(2, 1), ring(40, 1), gluing_of(KLEIN)]:
            self.assertIs(is_joined(gluing), True)
            self.assertEqual(pieces(gluing), [gluing])

    def test_a_chain_of_faces_joins(self):
        # Only neighbours in the ring share faces, for q = 0.
        self.assertIs(is_joined(ring(9, 0)), True)

    def test_several_pieces_in_the_order_of_their_least_tetrahedra(self):
        parts = [ring(3, 1), gluing_of(KLEIN), ring(2, 0)]
        apart = placed(parts, [2, 4, 5, 1, 0, 3])
        self.assertIs(is_joined(apart), False)
        self.assertEqual(pieces(apart), [parts[2], parts[1], parts[0]])

    def test_new_numbers_are_in_the_old_order(self):
        part = ring(4, 1)
        apart = placed([part, ring(1, 0)], [3, 0, 4, 1, 2])
        # In the piece the old numbers 0, 1, 3, 4 become 0, 1, 2, 3.
        self.assertEqual(pieces(apart), [placed([part], [2, 0, 3, 1]), ring(1, 0)])

    def test_random_unions_fall_apart(self):
        for seed in range(20):
            parts = [random_gluing(1, seed), ring(3, seed % 3), gluing_of(TORUS)]
            order = random.Random(seed).sample(range(6), 6)
            found = pieces(placed(parts, order))
            self.assertEqual(len(found), 3)
            self.assertEqual(sorted(len(piece) for piece in found), [1, 2, 3])
            for piece in found:
                self.assertTrue(is_gluing(piece) and is_joined(piece))

    def test_union(self):
        one, other = gluing_of(KLEIN), ring(3, 1)
        both = union(one, other)
        self.assertEqual(both, placed([one, other], [0, 1, 2, 3]))
        self.assertEqual(pieces(both), [one, other])
        self.assertEqual(pieces(union(other, one)), [other, one])
        self.assertEqual(union(one, one), gluing_of(KLEIN + " / " + KLEIN.replace("0:", "1:")))

    def test_the_size_of_unions(self):
        self.assertEqual(len(union(ring(39, 1), ring(1, 0))), 40)
        self.assertEqual(pieces(union(ring(1, 0), ring(39, 1))), [ring(1, 0), ring(39, 1)])
        for one, other in ((40, 1), (1, 40), (21, 20), (40, 40)):
            with self.assertRaises(TooLarge):
                union(ring(one, 0), ring(other, 0))

    def test_errors_of_union_in_order(self):
        bad, worse = gluing_of("0:1023 0:1023 0:1023 0:1023"), gluing_of("0:0000 " * 4)
        for one, other, at in ((bad, worse, 2), (worse, bad, 0), (ring(40, 0), bad, 2),
                               (bad, ring(40, 0), 2), (ring(1, 0), (), 0), (bad, (), 2)):
            with self.assertRaises(NotGluing) as caught:
                union(one, other)
            self.assertEqual(caught.exception.at, at)

    def test_results_are_new_lists(self):
        pieces(ring(2, 1)).clear()
        self.assertEqual(pieces(ring(2, 1)), [ring(2, 1)])


class MirrorTest(unittest.TestCase):
    def test_mirror_image(self):
        self.assertEqual(mirror(gluing_of(KLEIN)), gluing_of("0:1320 0:3021 0:0231 0:0312"))
        told = "1:1230 1:1230 1:1230 1:1230 / 0:3012 0:3012 0:3012 0:3012"
        image = "1:1302 1:1302 1:1302 1:1302 / 0:2031 0:2031 0:2031 0:2031"
        self.assertEqual(mirror(gluing_of(told)), gluing_of(image))

    def test_mirror_image_by_the_words(self):
        s = (0, 1, 3, 2)
        for gluing in sample_gluings():
            image = mirror(gluing)
            self.assertTrue(is_gluing(image))
            self.assertEqual(mirror(image), gluing)
            for t, row in enumerate(gluing):
                for f, (u, p) in enumerate(row):
                    self.assertEqual(image[t][s[f]], (u, product(s, p, s)))


class OrientationTest(unittest.TestCase):
    def test_oriented(self):
        self.assertIs(is_oriented(gluing_of(EXAMPLE)), True)
        self.assertIs(is_oriented(ring(5, 2)), True)
        self.assertIs(is_oriented(mirror(ring(5, 2))), True)
        self.assertIs(is_oriented(gluing_of(KLEIN)), False)
        self.assertIs(is_oriented(gluing_of(ONE_SIDED)), False)
        self.assertIs(is_oriented(union(ring(3, 1), ring(2, 1))), True)
        self.assertIs(is_oriented(union(ring(3, 1), gluing_of(KLEIN))), False)
        self.assertIs(is_oriented(union(gluing_of(KLEIN), ring(3, 1))), False)

    def test_oriented_by_the_words(self):
        for gluing in sample_gluings() + all_of_one():
            expected = all(is_odd(p) for row in gluing for _, p in row)
            self.assertIs(is_oriented(gluing), expected)

    def test_can_be_oriented(self):
        for gluing in [gluing_of(EXAMPLE), ring(1, 0), ring(4, 1), ring(40, 3)]:
            self.assertEqual(sides(gluing), [False] * len(gluing))

    def test_can_be_oriented_but_is_not(self):
        odd, even = (1, 0, 2, 3), (1, 2, 0, 3)
        gluing = renamed_by_words(ring(3, 1), ((0, even), (1, odd), (2, (0, 1, 2, 3))))
        self.assertIs(is_oriented(gluing), False)
        self.assertEqual(sides(gluing), [False, True, False])
        gluing = renamed_by_words(ring(3, 1), ((0, odd), (1, (0, 1, 2, 3)), (2, odd)))
        self.assertEqual(sides(gluing), [False, True, False])

    def test_sides_tell_which_renaming_orients(self):
        rng = random.Random(5)
        for p, q in ((2, 1), (5, 2), (12, 5), (40, 11)):
            for seed in range(4):
                gluing = renamed_by_words(ring(p, q), random_renaming(p, seed))
                odd = sides(gluing)
                self.assertIs(odd[0], False)
                self.assertEqual(len(odd), p)
                choice = tuple(
                    (t, rng.choice([one for one in PERMUTATIONS if is_odd(one) == odd[t]]))
                    for t in range(p))
                self.assertTrue(is_oriented(renamed_by_words(gluing, choice)))

    def test_all_small_choices(self):
        for gluing in [random_gluing(n, seed) for n in (1, 2, 3) for seed in range(40)]:
            if not is_joined(gluing):
                continue
            ways = []
            for number in range(2 ** len(gluing)):
                odd = [number >> t & 1 == 1 for t in range(len(gluing))]
                if all(odd[t] ^ is_odd(p) ^ odd[u] for t, row in enumerate(gluing) for u, p in row):
                    ways.append(odd)
            self.assertIn(len(ways), (0, 2))
            expected = [odd for odd in ways if not odd[0]]
            self.assertEqual(sides(gluing), expected[0] if expected else None)

    def test_cannot_be_oriented(self):
        for text in (KLEIN, ONE_SIDED):
            self.assertIsNone(sides(gluing_of(text)))

    def test_closed_rings_have_sides(self):
        for gluing in closed_gluings()[:-1]:
            self.assertIsNotNone(sides(gluing))

    def test_not_joined(self):
        for gluing in (union(ring(3, 1), ring(2, 1)), union(ring(1, 0), gluing_of(KLEIN))):
            with self.assertRaises(NotJoined):
                sides(gluing)

    def test_results_are_new_lists(self):
        sides(ring(2, 1)).clear()
        self.assertEqual(sides(ring(2, 1)), [False, False])


if __name__ == "__main__":
    unittest.main()
