"""Promises 124, 125, 127 and 128: homology, numbers modulo primes, fillings and tests of cycles."""

import random
import unittest

from tests.samples import (
    EXAMPLE, HANDLE, ONE_SIDED, PLANE_CIRCLE, QUATERNIONS, closed_gluings, gluing_of, open_gluings,
    random_renaming, renamed_by_words, ring, wrong_gluings)
from tests.test_chains import samples, told_border_matrix
from tests.test_diagonal import is_told_form
from tests.told_moves import SPLIT, many_closed_gluings, told_can, told_gluing, told_moves
from wedgespace.chains import border, cell_counts, side_signs
from wedgespace.diagonal import divisors, kernel
from wedgespace.errors import BadNumber, NotClosed, NotGluing, NotMatrix
from wedgespace.homology import cycle_test, filling, homology, homology_forms, number_modulo
from wedgespace.skeleton import edge_classes

GREAT = 10 ** 5000
PRIMES = (2, 3, 5, 7, 11, 13)


def all_homologies(gluing):
    return [homology(gluing, dimension) for dimension in range(4)]


def rank_modulo(rows, prime):
    """Return the rank of a matrix modulo a prime, by clearing columns."""
    rows = [[x % prime for x in row] for row in rows]
    rank = 0
    for j in range(len(rows[0]) if rows else 0):
        at = next((i for i in range(rank, len(rows)) if rows[i][j]), None)
        if at is None:
            continue
        rows[rank], rows[at] = rows[at], rows[rank]
        inverse = pow(rows[rank][j], -1, prime)
        for i in range(rank + 1, len(rows)):
            factor = rows[i][j] * inverse
            rows[i] = [(x - factor * y) % prime for x, y in zip(rows[i], rows[rank])]
        rank += 1
    return rank


class HomologyTest(unittest.TestCase):
    def test_told_homologies(self):
        sphere = [(1, []), (0, []), (0, []), (1, [])]
        self.assertEqual(all_homologies(gluing_of(EXAMPLE)), sphere)
        self.assertEqual(all_homologies(ring(5, 0)), sphere)
        self.assertEqual(all_homologies(gluing_of(HANDLE)), [(1, []), (1, []), (1, []), (1, [])])
        self.assertEqual(all_homologies(gluing_of(ONE_SIDED)), [(1, []), (1, []), (0, [2]), (0, [])])
        self.assertEqual(all_homologies(gluing_of(QUATERNIONS)), [(1, []), (0, [2, 2]), (0, []), (1, [])])
        self.assertEqual(all_homologies(gluing_of(PLANE_CIRCLE)), [(1, []), (1, [2]), (0, [2]), (0, [])])

    def test_rings(self):
        for p, order, turns in ((5, [5], (1, 2, 3, 4)), (6, [3], (2, 4)), (6, [2], (3,)), (7, [], (0,)), (40, [40], (7,))):
            for q in turns:
                self.assertEqual(all_homologies(ring(p, q)), [(1, []), (0, order), (0, []), (1, [])])

    def test_by_the_words(self):
        for gluing in samples():
            counts = cell_counts(gluing)
            found = [[]] + [divisors(told_border_matrix(gluing, k), counts[k - 1]) for k in (1, 2, 3)] + [[]]
            for k in range(4):
                rank = counts[k] - len(found[k]) - len(found[k + 1])
                self.assertEqual(homology(gluing, k), (rank, [d for d in found[k + 1] if d > 1]))

    def test_closed_gluings(self):
        seen = set()
        for gluing in samples() + closed_gluings():
            first, second, third, fourth = all_homologies(gluing)
            self.assertEqual(first, (1, []))
            counts = cell_counts(gluing)
            self.assertEqual(counts[0] - counts[1] + counts[3], 0)
            if side_signs(gluing) is not None:
                self.assertEqual((third, fourth), ((second[0], []), (1, [])))
            else:
                self.assertEqual((third, fourth), ((second[0] - 1, [2]), (0, [])))
            seen.add((side_signs(gluing) is not None, second[0], tuple(second[1])))
        self.assertGreater(len(seen), 7)

    def test_moves_and_renamings(self):
        made = {kind: 0 for kind in ("split", "join", "face", "edge")}
        told = [gluing_of(text) for text in (HANDLE, QUATERNIONS, PLANE_CIRCLE, SPLIT)]
        for gluing in told + list(many_closed_gluings()[::3]):
            expected = all_homologies(gluing)
            turned = renamed_by_words(gluing, random_renaming(len(gluing), "homology"))
            self.assertEqual(all_homologies(turned), expected)
            self.assertEqual(side_signs(turned) is None, side_signs(gluing) is None)
            for move in told_moves(len(gluing)):
                if told_can(gluing, move) and made[move[0]] < 40:
                    made[move[0]] += 1
                    behind = told_gluing(gluing, move)
                    self.assertEqual(all_homologies(behind), expected)
                    self.assertEqual(side_signs(behind) is None, side_signs(gluing) is None)
        self.assertGreater(min(made.values()), 10)

    def test_results_are_new_lists(self):
        homology(ring(5, 2), 1)[1].append(7)
        self.assertEqual(homology(ring(5, 2), 1), (0, [5]))

    def test_errors_in_order(self):
        calls = [lambda gluing, k: homology(gluing, k), lambda gluing, k: number_modulo(gluing, k, 2),
                 lambda gluing, k: number_modulo(gluing, k, 4)]
        for call in calls:
            for k in (-1, 4, GREAT, -GREAT):
                with self.assertRaises(BadNumber):
                    call(ring(2, 1), k)
            for gluing, at in wrong_gluings():
                for k in (0, 4):
                    with self.assertRaises(NotGluing) as caught:
                        call(gluing, k)
                    self.assertEqual(caught.exception.at, at)
            for gluing in open_gluings():
                for k in (0, 4):
                    with self.assertRaises(NotClosed):
                        call(gluing, k)


class ModuloTest(unittest.TestCase):
    def test_by_the_words(self):
        for gluing in samples()[:12] + samples()[25::3] + closed_gluings()[::4]:
            counts = cell_counts(gluing)
            for prime in PRIMES:
                ranks = [0] + [rank_modulo(told_border_matrix(gluing, k), prime) for k in (1, 2, 3)] + [0]
                for k in range(4):
                    self.assertEqual(number_modulo(gluing, k, prime), counts[k] - ranks[k] - ranks[k + 1])

    def test_told_by_the_homology(self):
        for gluing in (ring(5, 2), ring(6, 1), gluing_of(PLANE_CIRCLE), gluing_of(QUATERNIONS), ring(11, 3), ring(39, 7)):
            found = [(0, [])] + all_homologies(gluing)
            for prime in PRIMES:
                for k in range(4):
                    expected = found[k + 1][0] + sum(d % prime == 0 for d in found[k + 1][1] + found[k][1])
                    self.assertEqual(number_modulo(gluing, k, prime), expected)

    def test_other_integers(self):
        for prime in (0, 1, 4, 6, 9, 12, 17, 19, -2, -13, GREAT, -GREAT):
            for k in (0, 3):
                with self.assertRaises(BadNumber):
                    number_modulo(ring(2, 1), k, prime)


class FormsTest(unittest.TestCase):
    def test_forms_of_the_border_matrices(self):
        for gluing in samples()[::3] + [ring(40, 7)]:
            forms = homology_forms(gluing)
            self.assertEqual((type(forms), len(forms)), (tuple, 3))
            for k in (1, 2, 3):
                rows = told_border_matrix(gluing, k)
                self.assertTrue(is_told_form(rows, cell_counts(gluing)[k - 1], forms[k - 1]))

    def test_no_lists_are_shared(self):
        forms = homology_forms(ring(3, 1))
        lists = [row for form in forms for part in form for row in part]
        self.assertEqual(len({id(row) for row in lists}), len(lists))

    def test_errors(self):
        for gluing, at in wrong_gluings():
            with self.assertRaises(NotGluing) as caught:
                homology_forms(gluing)
            self.assertEqual(caught.exception.at, at)
        for gluing in open_gluings():
            with self.assertRaises(NotClosed):
                homology_forms(gluing)


class CyclesTest(unittest.TestCase):
    def check(self, gluing, cycle):
        """Check that exactly one of both is told, and right; return 'filled', or the modulus."""
        before = list(cycle)
        chain, test = filling(gluing, cycle), cycle_test(gluing, cycle)
        self.assertEqual(cycle, before)
        self.assertEqual((chain is None) + (test is None), 1)
        if chain is not None:
            self.assertEqual(border(gluing, 2, chain), cycle)
            return "filled"
        modulus, weights = test
        self.assertTrue(modulus == 0 or modulus > 1)
        self.assertEqual(len(weights), len(edge_classes(gluing)))
        for row in told_border_matrix(gluing, 2) + [cycle]:
            total = sum(x * y for x, y in zip(row, weights))
            self.assertEqual((total % modulus if modulus else total) != 0, row == cycle)
        return modulus

    def test_borders(self):
        rng = random.Random("borders")
        for gluing in samples()[::2]:
            chain = [rng.choice((0, 1, -3, 10 ** 40)) for _ in range(2 * len(gluing))]
            self.assertEqual(self.check(gluing, border(gluing, 2, chain)), "filled")
            self.assertEqual(self.check(gluing, [0] * cell_counts(gluing)[1]), "filled")

    def test_cycles_with_a_multiple_that_is_a_border(self):
        for p, q in ((2, 1), (5, 2), (6, 2), (7, 3)):
            gluing = ring(p, q)
            [order] = homology(gluing, 1)[1]
            # The first edge is the axis: it leads round once.
            axis = [0] * cell_counts(gluing)[1]
            axis[0] = 1
            self.assertEqual(border(gluing, 1, axis), [0] * cell_counts(gluing)[0])
            for factor in range(1, 2 * order + 1):
                found = self.check(gluing, [factor * x for x in axis])
                self.assertEqual(found == "filled", factor % order == 0)
                self.assertNotEqual(found, 0)

    def test_cycles_without_such_a_multiple(self):
        for text in (HANDLE, ONE_SIDED, PLANE_CIRCLE):
            gluing = gluing_of(text)
            count = cell_counts(gluing)
            moduli = set()
            for cycle in kernel(told_border_matrix(gluing, 1), count[0]):
                for factor in (1, 2, 5):
                    moduli.add(self.check(gluing, [factor * x for x in cycle]))
            self.assertIn(0, moduli)

    def test_all_cycles_of_a_basis(self):
        for gluing in samples()[::2]:
            count = cell_counts(gluing)
            found = [self.check(gluing, cycle) for cycle in kernel(told_border_matrix(gluing, 1), count[0])]
            rank, told = homology(gluing, 1)
            self.assertEqual(set(found) <= {"filled"}, (rank, told) == (0, []))

    def test_errors_in_order(self):
        for function in (filling, cycle_test):
            for gluing, at in wrong_gluings():
                with self.assertRaises(NotGluing) as caught:
                    function(gluing, [])
                self.assertEqual(caught.exception.at, at)
            for gluing in open_gluings():
                with self.assertRaises(NotClosed):
                    function(gluing, [])
            for cycle in ([], [1, 1, 1], [0, 1, 0], [0] * 5):
                with self.assertRaises(NotMatrix):
                    function(ring(2, 1), cycle)
            for cycle in ([0, 1, 0, 0], [0, 1, 1, 0], [3, GREAT, GREAT, 2]):
                with self.assertRaises(BadNumber):
                    function(ring(2, 1), cycle)


if __name__ == "__main__":
    unittest.main()
