"""Promises 42 to 45: walk forms, standard forms, symmetries."""

import itertools
import unittest

from tests.samples import (
    EXAMPLE, KLEIN, NO_PERMUTATIONS, ONE_SIDED, PERMUTATIONS, PLANES, TORUS, all_of_one,
    gluing_of, inverse, product, random_gluing, random_renaming, renamed_by_words, ring,
    wrong_gluings)
from wedgespace.errors import BadNumber, NotGluing, NotJoined, TooLarge
from wedgespace.forms import renamings, standard_form, standard_renaming, symmetries, walk_form
from wedgespace.gluings import is_joined, union
from wedgespace.links import is_closed

SAME = (0, 1, 2, 3)


def small_gluings():
    """Return joined gluings of 1 to 4 tetrahedra, with many symmetries and with none but one."""
    told = [gluing_of(text) for text in (EXAMPLE, ONE_SIDED, KLEIN, TORUS, PLANES)]
    rings = [ring(p, q) for p in (1, 2, 3, 4) for q in range(p)]
    others = [random_gluing(n, seed) for n in (1, 2, 3) for seed in range(5)]
    return [gluing for gluing in told + rings + others if is_joined(gluing)]


def expected_walk(gluing, t, p):
    """Return the renaming of a walk form, by the words of promise 43."""
    names = {t: list(p)}
    numbers = {t: 0}
    for k in range(len(gluing)):
        here = [u for u in numbers if numbers[u] == k][0]
        for face in range(4):
            f = names[here].index(face)
            u, q = gluing[here][f]
            if u in numbers:
                continue
            numbers[u] = len(numbers)
            names[u] = [None] * 4
            for i in range(4):
                if i != f:
                    names[u][q[i]] = names[here][i]
            names[u][q[f]] = face
    return tuple((numbers[u], tuple(names[u])) for u in range(len(gluing)))


def all_walks(gluing):
    """Return all triples of a walk form, its beginning, and its renaming."""
    walks = []
    for t in range(len(gluing)):
        for p in PERMUTATIONS:
            renaming = expected_walk(gluing, t, p)
            walks.append((renamed_by_words(gluing, renaming), (t, p), renaming))
    return walks


def all_renamings(n):
    """Return all renamings for n tetrahedra."""
    return [tuple(zip(numbers, names)) for numbers in itertools.permutations(range(n))
            for names in itertools.product(PERMUTATIONS, repeat=n)]


class WalkFormTest(unittest.TestCase):
    def test_told_walks(self):
        two = gluing_of("1:1023 1:1230 1:2301 1:0123 / 0:2301 0:1023 0:3012 0:0123")
        # Behind the face 0 lies the other one, whose corners 1, 0, 2, 3 become 0, 1, 2, 3.
        form = gluing_of("1:0123 1:0231 1:2310 1:1023 / 0:0123 0:3201 0:0312 0:1023")
        self.assertEqual(walk_form(two, 0, SAME), (form, ((0, SAME), (1, (1, 0, 2, 3)))))
        # From the second one: behind its face 0, the corners 2, 3, 0, 1 lie on 0, 1, 2, 3.
        renaming = ((1, (3, 2, 0, 1)), (0, (0, 1, 3, 2)))
        self.assertEqual(walk_form(two, 1, (0, 1, 3, 2)), (renamed_by_words(two, renaming), renaming))

    def test_one_tetrahedron_is_renamed(self):
        for p in PERMUTATIONS:
            renaming = ((0, p),)
            self.assertEqual(walk_form(gluing_of(KLEIN), 0, p),
                             (renamed_by_words(gluing_of(KLEIN), renaming), renaming))

    def test_each_beginning_by_the_words(self):
        for gluing in small_gluings() + [ring(6, 1), random_gluing(5, 2)]:
            for form, (t, p), renaming in all_walks(gluing):
                self.assertEqual(walk_form(gluing, t, p), (form, renaming))

    def test_renamed_beginnings_have_the_same_walk_form(self):
        for gluing in small_gluings():
            renaming = random_renaming(len(gluing), "walk")
            other = renamed_by_words(gluing, renaming)
            for t, (u, p) in enumerate(renaming):
                self.assertEqual(walk_form(gluing, t, p)[0], walk_form(other, u, SAME)[0])

    def test_the_first_walk_finds_all_tetrahedra_in_their_order(self):
        for gluing in small_gluings():
            form, _ = walk_form(gluing, 0, SAME)
            self.assertEqual(walk_form(form, 0, SAME)[1], tuple((t, SAME) for t in range(len(form))))

    def test_wrong_numbers(self):
        for gluing in (gluing_of(EXAMPLE), ring(3, 1), ring(12, 5)):
            for t in (-1, -len(gluing), len(gluing), 10 ** 30, -10 ** 30):
                with self.assertRaises(BadNumber):
                    walk_form(gluing, t, SAME)
            for p in NO_PERMUTATIONS:
                with self.assertRaises(BadNumber):
                    walk_form(gluing, 0, p)


class StandardFormTest(unittest.TestCase):
    def test_least_walk_form(self):
        for gluing in small_gluings() + [ring(6, 1), random_gluing(5, 2)]:
            walks = all_walks(gluing)
            least = min(form for form, _, _ in walks)
            first = [renaming for form, _, renaming in walks if form == least][0]
            self.assertEqual(standard_form(gluing), least)
            self.assertEqual(standard_renaming(gluing), first)

    def test_told_forms(self):
        for text in (EXAMPLE, KLEIN, ONE_SIDED, TORUS, PLANES):
            self.assertEqual(standard_form(gluing_of(text)), gluing_of(text))
        self.assertEqual(standard_form(gluing_of("0:3102 0:0231 0:0312 0:2130")), gluing_of(KLEIN))
        self.assertEqual(standard_form(ring(1, 0)), gluing_of(EXAMPLE))

    def test_renamed_gluings_have_the_same_form(self):
        gluings = small_gluings() + [ring(p, q) for p, q in ((6, 2), (9, 4), (12, 5))]
        for gluing in gluings + [random_gluing(n, 5) for n in (6, 9, 12)]:
            form = standard_form(gluing)
            self.assertEqual(standard_form(form), form)
            for seed in range(2):
                other = renamed_by_words(gluing, random_renaming(len(gluing), seed))
                self.assertEqual(standard_form(other), form)
            leading = standard_renaming(gluing)
            self.assertEqual(renamed_by_words(gluing, leading), form)

    def test_same_form_exactly_if_renamed(self):
        gluings = all_of_one()
        for one in gluings[::7]:
            images = {renamed_by_words(one, renaming) for renaming in all_renamings(1)}
            for other in gluings:
                self.assertIs(standard_form(one) == standard_form(other), other in images)

    def test_closed_gluings_of_one_tetrahedron(self):
        forms = {standard_form(gluing) for gluing in all_of_one() if is_closed(gluing)}
        self.assertEqual(len(forms), 4)

    def test_forms_of_rings(self):
        for p in range(1, 9):
            for q in range(p):
                self.assertEqual(standard_form(ring(p, q)), standard_form(ring(p, (p - q) % p)))
        self.assertNotEqual(standard_form(ring(5, 1)), standard_form(ring(5, 2)))


class RenamingsTest(unittest.TestCase):
    def test_all_renamings_of_small_gluings(self):
        pairs = []
        for gluing in [one for one in small_gluings() if len(one) <= 2]:
            other = renamed_by_words(gluing, random_renaming(len(gluing), "all"))
            pairs += [(gluing, gluing), (gluing, other)]
        pairs += [(ring(2, 1), ring(2, 0)), (ring(1, 0), gluing_of(KLEIN)), (ring(2, 0), ring(2, 1))]
        for one, other in pairs:
            expected = sorted(renaming for renaming in all_renamings(len(one))
                              if renamed_by_words(one, renaming) == other)
            self.assertEqual(renamings(one, other), expected)

    def test_larger_gluings(self):
        for gluing in [ring(3, 1), ring(5, 2), ring(8, 0), ring(12, 5), random_gluing(7, 3)]:
            n = len(gluing)
            renaming = random_renaming(n, "larger")
            other = renamed_by_words(gluing, renaming)
            found = renamings(gluing, other)
            self.assertIn(renaming, found)
            self.assertEqual(found, sorted(set(found)))
            self.assertLessEqual(len(found), 24 * n)
            self.assertEqual(len(found), len(symmetries(gluing)))
            for one in found:
                self.assertEqual(renamed_by_words(gluing, one), other)

    def test_none(self):
        self.assertEqual(renamings(ring(5, 1), ring(5, 2)), [])
        self.assertEqual(renamings(ring(5, 1), ring(6, 1)), [])
        self.assertEqual(renamings(ring(6, 1), ring(5, 1)), [])

    def test_symmetries(self):
        # Of the ring: turned by its tetrahedra, and with its ends, and with its sides, exchanged.
        self.assertEqual(len(symmetries(ring(7, 2))), 14)
        self.assertEqual(symmetries(gluing_of(KLEIN))[0], ((0, SAME),))
        for gluing in small_gluings() + [ring(5, 2)]:
            found = symmetries(gluing)
            self.assertEqual(found, renamings(gluing, gluing))
            self.assertIn(tuple((t, SAME) for t in range(len(gluing))), found)
            form = standard_form(gluing)
            least = [1 for other, _, _ in all_walks(gluing) if other == form]
            self.assertEqual(len(found), len(least))
            for one in found[:8]:
                back = [None] * len(one)
                for t, (u, p) in enumerate(one):
                    back[u] = (t, inverse(p))
                self.assertIn(tuple(back), found)
                for other in found:
                    both = tuple((other[u][0], product(p, other[u][1])) for u, p in one)
                    self.assertIn(both, found)

    def test_results_are_new_lists(self):
        expected = symmetries(ring(2, 1))
        symmetries(ring(2, 1)).clear()
        self.assertEqual(symmetries(ring(2, 1)), expected)


class ErrorsTest(unittest.TestCase):
    def calls(self, gluing):
        """Return calls with one gluing; the numbers of the walk form are wrong, too."""
        return [lambda: standard_form(gluing), lambda: standard_renaming(gluing),
                lambda: symmetries(gluing), lambda: walk_form(gluing, -1, (0, 0, 0, 0)),
                lambda: walk_form(gluing, 0, SAME), lambda: renamings(gluing, gluing)]

    def test_wrong_gluings(self):
        for gluing, at in wrong_gluings():
            for call in self.calls(gluing):
                with self.assertRaises(NotGluing) as caught:
                    call()
                self.assertEqual(caught.exception.at, at)

    def test_not_joined(self):
        for gluing in (union(ring(1, 0), ring(2, 1)), union(ring(7, 1), ring(7, 1))):
            for call in self.calls(gluing):
                with self.assertRaises(NotJoined):
                    call()

    def test_too_large(self):
        for n in (13, 40):
            for call in self.calls(ring(n, 5)):
                with self.assertRaises(TooLarge):
                    call()
        self.assertEqual(len(standard_form(ring(12, 5))), 12)

    def test_errors_of_renamings_in_order(self):
        bad, worse = gluing_of("0:1023 0:1023 0:1023 0:1023"), ()
        apart, large = union(ring(1, 0), ring(1, 0)), ring(13, 1)
        for one, other, at in ((bad, worse, 2), (worse, bad, 0), (apart, bad, 2), (large, bad, 2),
                               (bad, apart, 2), (ring(1, 0), bad, 2)):
            with self.assertRaises(NotGluing) as caught:
                renamings(one, other)
            self.assertEqual(caught.exception.at, at)
        for one, other in ((apart, ring(1, 0)), (ring(2, 1), apart), (apart, large), (apart, apart)):
            with self.assertRaises(NotJoined):
                renamings(one, other)
        for one, other in ((large, ring(1, 0)), (ring(2, 1), large), (large, apart)):
            with self.assertRaises(TooLarge):
                renamings(one, other)


if __name__ == "__main__":
    unittest.main()
