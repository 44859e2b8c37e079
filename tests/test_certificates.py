"""Promises 260 to 267: what the checker accepts, and what answers show to it."""

import ast
import copy
import itertools
import os
import random
import unittest

from tests.samples import (
    EXAMPLE, FOURTH, HANDLE, KLEIN, ONE_SIDED, PERMUTATIONS, PLANE_CIRCLE, PRISM, QUATERNIONS, TURNED, all_of_one,
    closed_gluings, gluing_of, open_gluings, random_gluing, random_renaming, renamed_by_words, ring, sample_gluings,
    wrong_gluings)
from tests.test_chains import told_border_matrix
from tests.test_decide import (
    answered_pairs, changed_forms, other_pairs, same_pairs, told_circle, told_signs, turned, wrong_ways)
from tests.test_images import told_images
from tests.told_moves import (
    APART_JOIN, MIXED_EDGE, MIXED_JOIN, TWO_AROUND, is_told_way, many_closed_gluings, told_can, told_gluing,
    told_moves, wandered)
from wedgespace.certificates import (
    are_signs, homologies_told, image_count, is_cycle_test, is_filling, is_turning_circle, is_way, shown)
from wedgespace.chains import border, cell_counts, turning_circle
from wedgespace.covers import cover_numbers
from wedgespace.decide import decide, is_answer, shows
from wedgespace.diagonal import kernel
from wedgespace.errors import BadNumber, NotClosed, NotGluing, TooLarge
from wedgespace.groups import group_of
from wedgespace.homology import cycle_test, filling, homology, homology_forms
from wedgespace.links import is_closed
from wedgespace.renaming import same_names

GREAT = 10 ** 5000
FOLDER = os.path.join(os.path.dirname(os.path.dirname(os.path.abspath(__file__))), "wedgespace")


def imported_by(name):
    """Return the modules that a file of the package imports from."""
    with open(os.path.join(FOLDER, f"{name}.py"), encoding="utf-8") as file:
        tree = ast.parse(file.read())
    found = {node.module for node in ast.walk(tree) if isinstance(node, ast.ImportFrom)}
    return found | {alias.name for node in ast.walk(tree) if isinstance(node, ast.Import) for alias in node.names}


class ModulesTest(unittest.TestCase):
    def test_imports(self):
        left, seen = ["certificates"], set()
        while left:
            name = left.pop()
            seen.add(name)
            for module in imported_by(name):
                self.assertTrue(module == "wedgespace.errors" or module.startswith("wedgespace.checker_"), module)
                if module != "wedgespace.errors" and module.split(".")[1] not in seen:
                    left.append(module.split(".")[1])
        others = {name[:-3] for name in os.listdir(FOLDER) if name.endswith(".py")} - seen
        # Whatever the other modules import, the checker's own modules are not among it.
        for name in others - {"errors"}:
            self.assertFalse({module.split(".")[-1] for module in imported_by(name)} & seen, name)


class ClosedTest(unittest.TestCase):
    def accepted(self, gluing):
        """Return whether the checker takes a gluing as a closed one."""
        try:
            return is_way(gluing, gluing, ((), same_names(len(gluing))))
        except NotClosed:
            return False

    def test_closed_gluings_and_others(self):
        seen = {True: 0, False: 0}
        rings = [renamed_by_words(ring(n, 2), random_renaming(n, "checker")) for n in (3, 7, 40)]
        others = [random_gluing(n, seed) for n in (1, 2, 3) for seed in range(60)]
        for gluing in sample_gluings() + all_of_one() + closed_gluings() + open_gluings() + rings + others:
            self.assertEqual(self.accepted(gluing), is_closed(gluing))
            seen[is_closed(gluing)] += 1
        self.assertGreater(min(seen.values()), 30)

    def test_errors_in_order(self):
        good = ring(2, 1)
        form = ([[1]], [[1]], [[1]], [[1]], [[1]])
        same = ((), same_names(2))
        one_gluing = [
            lambda gluing: homologies_told(gluing, (form, form, form)), lambda gluing: are_signs(gluing, []),
            lambda gluing: is_turning_circle(gluing, []), lambda gluing: is_filling(gluing, [], []),
            lambda gluing: is_cycle_test(gluing, [], (1, [])), lambda gluing: image_count(gluing, 0),
            lambda gluing: image_count(gluing, 2)]
        for answer in (("same", same), ("homology", (form,) * 3, (form,) * 3), ("sides", [], []), ("covers", 7), ("open",)):
            one_gluing.append(lambda gluing, answer=answer: shown(gluing, good, answer))
            one_gluing.append(lambda gluing, answer=answer: shown(good, gluing, answer))
            one_gluing.append(lambda gluing, answer=answer: shown(gluing, (), answer))
        one_gluing += [lambda gluing: is_way(gluing, good, same), lambda gluing: is_way(good, gluing, same),
                       lambda gluing: is_way(gluing, (), same)]
        for call in one_gluing:
            for gluing, at in wrong_gluings():
                with self.assertRaises(NotGluing) as caught:
                    call(gluing)
                self.assertEqual(caught.exception.at, at)
            for gluing in open_gluings():
                with self.assertRaises(NotClosed):
                    call(gluing)
        with self.assertRaises(NotGluing):
            is_way(good, (), same)
        with self.assertRaises(NotGluing) as caught:
            shown(gluing_of(EXAMPLE), wrong_gluings()[-1][0], ("open",))
        self.assertEqual(caught.exception.at, wrong_gluings()[-1][1])


class WayTest(unittest.TestCase):
    def test_every_move(self):
        made = {kind: 0 for kind in ("split", "join", "face", "edge")}
        for gluing in many_closed_gluings():
            for move in told_moves(len(gluing)):
                if told_can(gluing, move):
                    behind = told_gluing(gluing, move)
                    self.assertIs(is_way(gluing, behind, ((move,), same_names(len(behind)))), True)
                    made[move[0]] += 1
                else:
                    for n in (len(gluing), max(1, len(gluing) - 1), max(1, len(gluing) - 3)):
                        self.assertIs(is_way(gluing, ring(n, 0), ((move,), same_names(n))), False)
        self.assertGreater(min(made.values()), 20)

    def test_moves_that_cannot_be_made(self):
        # They nearly can: only one of the gluings among the old tetrahedra is another one.
        told = [(MIXED_JOIN, ("join", 1, 1), 2), (APART_JOIN, ("join", 0, 0), 1), (MIXED_EDGE, ("edge", 0, 4), 2),
                (TWO_AROUND, ("edge", 0, 0), 1), (EXAMPLE, ("face", 0, 0), 2), (EXAMPLE, ("join", 0, 0), 1)]
        for text, move, n in told:
            self.assertFalse(told_can(gluing_of(text), move))
            for q in range(n):
                self.assertIs(is_way(gluing_of(text), ring(n, q), ((move,), same_names(n))), False)

    def test_long_logs(self):
        rng = random.Random("checker")
        for seed, start in enumerate([ring(1, 0), gluing_of(ONE_SIDED), gluing_of(QUATERNIONS)]):
            log, end = [], start
            for _ in range(8):
                moves = [move for move in told_moves(len(end)) if told_can(end, move)]
                log.append(rng.choice(moves))
                end = told_gluing(end, log[-1])
            renaming = random_renaming(len(end), seed)
            other = renamed_by_words(end, renaming)
            self.assertIs(is_way(start, other, (tuple(log), renaming)), True)
            for k in range(len(log)):
                wrong = (tuple(log[:k] + log[k + 1:]), renaming)
                self.assertIs(is_way(start, other, wrong), is_told_way(start, other, wrong))

    def test_changed_ways(self):
        pairs = same_pairs() + [(ring(3, 1), turned(ring(3, 1), 1)), (ring(12, 5), turned(ring(12, 5), 1))]
        for one, other in pairs:
            way = decide(one, other)[1] if len(one) < 9 else ((), random_renaming(12, "decide 1"))
            self.assertIs(is_way(one, other, way), True)
            for wrong in wrong_ways(one, way):
                self.assertIs(is_way(one, other, wrong), False)
                self.assertEqual(shown(one, other, ("same", wrong)), "none")
            (u, p), *rest = way[1]
            for other_p in PERMUTATIONS:
                changed = (way[0], ((u, other_p), *rest))
                self.assertIs(is_way(one, other, changed), is_told_way(one, other, changed))

    def test_40_tetrahedra(self):
        gluing = ring(37, 5)
        behind = told_gluing(gluing, ("split", 36))
        self.assertIs(is_way(gluing, behind, ((("split", 36),), same_names(40))), True)
        self.assertIs(is_way(behind, behind, ((), same_names(40))), True)
        # A face move and the edge move that undoes it: 41 tetrahedra are there between them.
        there = told_gluing(behind, ("face", 0, 2))
        back = [move for move in told_moves(41) if move[0] == "edge" and told_can(there, move)][-1]
        self.assertIs(is_way(behind, behind, ((("face", 0, 2), back), same_names(40))), False)
        end = told_gluing(there, back)
        self.assertIs(is_way(behind, end, ((("face", 0, 2), back), same_names(40))), False)
        for log in ((("split", 0),), (("split", 0), ("join", 39, 0)), (("split", GREAT),), (("join", 40, 0),)):
            self.assertIs(is_way(behind, behind, (log, same_names(40))), False)

    def test_renamings_for_other_numbers(self):
        gluing = ring(3, 1)
        for renaming in ((), same_names(2), same_names(4), same_names(40)):
            self.assertIs(is_way(gluing, gluing, ((), renaming)), False)
        self.assertIs(is_way(gluing, ring(2, 1), ((), same_names(2))), False)
        self.assertIs(is_way(gluing, ring(2, 1), ((), same_names(3))), False)
        self.assertIs(is_way(ring(2, 1), gluing, ((), same_names(2))), False)
        self.assertIs(is_way(gluing, ring(3, 2), ((), same_names(3))), False)


class FormsTest(unittest.TestCase):
    def test_homologies(self):
        for gluing in list(many_closed_gluings()[::2]) + closed_gluings()[::3] + [gluing_of(QUATERNIONS), ring(40, 6)]:
            found = homologies_told(gluing, homology_forms(gluing))
            self.assertEqual(found, [homology(gluing, k) for k in range(4)])
            self.assertEqual((type(found), {type(pair) for pair in found}), (list, {tuple}))

    def test_other_forms_of_the_same_matrices(self):
        for gluing in (ring(3, 1), gluing_of(ONE_SIDED), gluing_of(PRISM)):
            forms = homology_forms(gluing)
            for k in range(len(gluing)):
                others = tuple(rows_negated(columns_negated(form, k), k) for form in forms)
                self.assertEqual([form[2] for form in others], [form[2] for form in forms])
                self.assertEqual(homologies_told(gluing, others), [homology(gluing, k) for k in range(4)])

    def test_changed_forms(self):
        for gluing in (ring(2, 1), gluing_of(EXAMPLE), gluing_of(ONE_SIDED)):
            for wrong in changed_forms(homology_forms(gluing)):
                self.assertIsNone(homologies_told(gluing, wrong))

    def test_forms_that_are_no_diagonal_forms(self):
        gluing = ring(6, 2)
        forms = homology_forms(gluing)
        diagonal = forms[1][2]
        entries = [diagonal[k][k] for k in range(len(diagonal[0])) if diagonal[k][k]]
        self.assertEqual((entries[0], entries[1], entries[-1]), (1, 1, 3))
        # The left and the right matrices are right in each case, but the order of the entries is
        # not, one of them is negative, or some stand beside the diagonal.
        last = len(entries) - 1
        told = [(exchanged(forms[1], 0, 1), True), (exchanged(forms[1], 0, last), False),
                (exchanged(forms[1], last, last + 1), False), (rows_negated(forms[1], 0), False),
                (columns_negated(forms[1], 0), False), (rows_exchanged(forms[1], 0, 1), False), (forms[0], False),
                (row_added(forms[1], 1, 0), False), (row_added(forms[1], 0, 1), False)]
        for form, is_form in told:
            self.assertEqual(homologies_told(gluing, (forms[0], form, forms[2])) is not None, is_form)
        # The last entry of the dimension 3 is 0, those before it are 1.
        wrong = exchanged(forms[2], len(gluing) - 2, len(gluing) - 1)
        self.assertIsNone(homologies_told(gluing, (forms[0], forms[1], wrong)))

    def test_forms_of_other_gluings(self):
        self.assertIsNone(homologies_told(ring(2, 1), homology_forms(ring(3, 1))))
        self.assertIsNone(homologies_told(ring(3, 1), homology_forms(ring(2, 1))))
        self.assertIsNone(homologies_told(ring(5, 1), homology_forms(ring(5, 2))))
        forms = homology_forms(ring(3, 1))
        for wrong in ((forms[1], forms[0], forms[2]), (), forms[:2], forms + forms[:1], (forms[0], forms[1], forms[2][:4])):
            self.assertIsNone(homologies_told(ring(3, 1), wrong))


def negated(row):
    return [-x for x in row]


def rows_negated(form, k):
    """Return a form in which a row of the left matrix is negated, and all that goes with it."""
    left, left_inverse, diagonal, right, right_inverse = form
    if k >= len(left):
        return form
    return (left[:k] + [negated(left[k])] + left[k + 1:],
            [row[:k] + [-row[k]] + row[k + 1:] for row in left_inverse],
            diagonal[:k] + [negated(diagonal[k])] + diagonal[k + 1:], right, right_inverse)


def columns_negated(form, k):
    """Return a form in which a column of the right matrix is negated, and all that goes with it."""
    left, left_inverse, diagonal, right, right_inverse = form
    if k >= len(right):
        return form
    return (left, left_inverse, [row[:k] + [-row[k]] + row[k + 1:] for row in diagonal],
            [row[:k] + [-row[k]] + row[k + 1:] for row in right],
            right_inverse[:k] + [negated(right_inverse[k])] + right_inverse[k + 1:])


def rows_exchanged(form, i, k):
    """Return a form in which two rows of the left matrix are exchanged, and all that goes with them."""
    left, left_inverse, diagonal, right, right_inverse = copy.deepcopy(form)
    for rows in (left, diagonal):
        rows[i], rows[k] = rows[k], rows[i]
    for row in left_inverse:
        row[i], row[k] = row[k], row[i]
    return (left, left_inverse, diagonal, right, right_inverse)


def row_added(form, i, k):
    """Return a form in which the row k of the left matrix is added to the row i, and all that goes with it."""
    left, left_inverse, diagonal, right, right_inverse = copy.deepcopy(form)
    for rows in (left, diagonal):
        rows[i] = [x + y for x, y in zip(rows[i], rows[k])]
    for row in left_inverse:
        row[k] -= row[i]
    return (left, left_inverse, diagonal, right, right_inverse)


def exchanged(form, i, k):
    """Return a form in which two entries of the diagonal are exchanged."""
    left, left_inverse, diagonal, right, right_inverse = rows_exchanged(form, i, k)
    for row in diagonal + right:
        row[i], row[k] = row[k], row[i]
    right_inverse[i], right_inverse[k] = right_inverse[k], right_inverse[i]
    return (left, left_inverse, diagonal, right, right_inverse)


class SidesTest(unittest.TestCase):
    def test_signs(self):
        for gluing in list(many_closed_gluings()[::3]) + [gluing_of(text) for text in (ONE_SIDED, HANDLE, PRISM)]:
            if len(gluing) < 6:
                for signs in itertools.product((1, -1), repeat=len(gluing)):
                    self.assertIs(are_signs(gluing, list(signs)), told_signs(gluing, signs))

    def test_wrong_lists(self):
        for gluing in (ring(3, 1), turned(ring(3, 1), 1)):
            [signs, others] = [list(some) for some in itertools.product((1, -1), repeat=3) if told_signs(gluing, some)]
            self.assertEqual(signs, [-sign for sign in others])
            for some in (signs, others):
                self.assertIs(are_signs(gluing, some), True)
                for wrong in ([], some[:-1], some + [1], some + some, [0, 0, 0], [0] + some[1:], [2 * x for x in some],
                              [GREAT] + some[1:], [-some[0]] + some[1:], some[:2] + [-some[2]]):
                    self.assertIs(are_signs(gluing, wrong), False)

    def test_circles(self):
        seen = {True: 0, False: 0}
        for gluing in [gluing_of(text) for text in (ONE_SIDED, PLANE_CIRCLE, HANDLE, EXAMPLE)]:
            places = list(itertools.product(range(len(gluing)), range(4)))
            for size in range(4 if len(gluing) < 3 else 3):
                for circle in itertools.product(places, repeat=size):
                    found = is_turning_circle(gluing, list(circle))
                    self.assertIs(found, told_circle(gluing, list(circle)))
                    seen[found] += 1
        self.assertGreater(min(seen.values()), 20)

    def test_long_circles_and_wrong_numbers(self):
        gluing = gluing_of(PLANE_CIRCLE)
        circle = turning_circle(gluing)
        self.assertIs(is_turning_circle(gluing, circle), True)
        self.assertIs(is_turning_circle(gluing, circle * 2), False)
        self.assertIs(is_turning_circle(gluing, circle * 31), True)
        for wrong in ([], [(-1, 0)], [(3, 0)], [(0, 4)], [(0, -1)], [(GREAT, 0)], [(0, GREAT)], [(0, -GREAT)],
                      circle + [(0, 4)], [(-1, circle[0][1])] + circle[1:]):
            self.assertIs(is_turning_circle(gluing, wrong), False)


class CyclesTest(unittest.TestCase):
    def test_fillings_and_tests(self):
        kinds = set()
        for gluing in (ring(2, 1), ring(6, 2), gluing_of(HANDLE), gluing_of(PLANE_CIRCLE), gluing_of(QUATERNIONS)):
            counts = cell_counts(gluing)
            cycles = kernel(told_border_matrix(gluing, 1), counts[0])
            cycles += [[3 * x for x in cycle] for cycle in cycles] + told_border_matrix(gluing, 2)
            for cycle in cycles:
                chain, test = filling(gluing, cycle), cycle_test(gluing, cycle)
                kinds.add(None if test is None else test[0])
                if chain is not None:
                    self.check_filling(gluing, cycle, chain)
                else:
                    self.check_test(gluing, cycle, test)
        self.assertTrue({None, 0, 2, 3} <= kinds)

    def check_filling(self, gluing, cycle, chain):
        self.assertIs(is_filling(gluing, cycle, chain), True)
        zeros = [0] * len(cycle)
        self.assertIs(is_filling(gluing, zeros, [0] * len(chain)), True)
        self.assertIs(is_filling(gluing, cycle, [0] * len(chain)), cycle == zeros)
        for wrong in ([], chain[:-1], chain + [0], chain + chain):
            self.assertIs(is_filling(gluing, cycle, wrong), False)
        for k in range(len(chain)):
            changed = chain[:k] + [chain[k] + 1] + chain[k + 1:]
            self.assertIs(is_filling(gluing, cycle, changed), border(gluing, 2, changed) == cycle)
        # No weights can be a test of a cycle that is filled.
        for modulus, weights in ((0, [1] * len(cycle)), (2, [1] * len(cycle)), (3, cycle), (0, zeros), (5, cycle)):
            self.assertIs(is_cycle_test(gluing, cycle, (modulus, weights)), False)

    def check_test(self, gluing, cycle, test):
        modulus, weights = test
        self.assertIs(is_cycle_test(gluing, cycle, test), True)
        self.assertIs(is_cycle_test(gluing, [0] * len(cycle), test), False)
        for number in (1, -1, -2, -3, -modulus or -5, -GREAT):
            self.assertIs(is_cycle_test(gluing, cycle, (number, weights)), False)
        for wrong in ([], weights[:-1], weights + [0], [0] * len(weights)):
            self.assertIs(is_cycle_test(gluing, cycle, (modulus, wrong)), False)
        if modulus:
            self.assertIs(is_cycle_test(gluing, cycle, (modulus, [x + modulus * GREAT for x in weights])), True)
            self.assertIs(is_cycle_test(gluing, cycle, (modulus, [modulus * x for x in weights])), False)
        for k in range(len(weights)):
            changed = weights[:k] + [weights[k] + 1] + weights[k + 1:]
            rows = [sum(x * y for x, y in zip(row, changed)) for row in told_border_matrix(gluing, 2)]
            total = sum(x * y for x, y in zip(cycle, changed))
            right = not any(x % modulus if modulus else x for x in rows) and bool(total % modulus if modulus else total)
            self.assertIs(is_cycle_test(gluing, cycle, (modulus, changed)), right)
        for chain in ([0] * 2 * len(gluing), [1] * 2 * len(gluing)):
            self.assertIs(is_filling(gluing, cycle, chain), False)

    def test_lists_that_are_no_cycles(self):
        gluing = ring(2, 1)
        self.assertIs(is_cycle_test(gluing, [1, 0, 0, 0], cycle_test(gluing, [1, 0, 0, 0])), True)
        for wrong in ([], [1, 0, 0], [1, 0, 0, 0, 0], [0, 1, 0, 0], [0, 1, 1, 0], [1, GREAT, 0, 0]):
            self.assertIs(is_filling(gluing, wrong, [0, 0, 0, 0]), False)
            for modulus in (0, 2):
                for weights in ([1, 0, 0, 0], [1, 1, 1, 1], [1] * len(wrong)):
                    self.assertIs(is_cycle_test(gluing, wrong, (modulus, weights)), False)
        # The chain has the border of the list, but the list is too long.
        for row in told_border_matrix(gluing, 2):
            self.assertIs(is_filling(gluing, row + [0], [1, 0, 0, 0]), False)

    def test_lists_are_not_modified(self):
        gluing, cycle, test = ring(2, 1), [1, 0, 0, 0], cycle_test(ring(2, 1), [1, 0, 0, 0])
        before = copy.deepcopy(test)
        self.assertTrue(is_cycle_test(gluing, cycle, test))
        self.assertEqual((cycle, test), ([1, 0, 0, 0], before))


class ImagesTest(unittest.TestCase):
    def test_counts(self):
        told = [gluing_of(text) for text in (EXAMPLE, FOURTH, HANDLE, ONE_SIDED, PLANE_CIRCLE, PRISM, QUATERNIONS)]
        told += [ring(2, 1), ring(3, 0), ring(3, 1), *(one for one in many_closed_gluings() if len(one) < 4)]
        told += [turned(one, 7) for one in told]
        for gluing in dict.fromkeys(told):
            for degree in (1, 2, 3):
                found = image_count(gluing, degree)
                self.assertEqual(found, cover_numbers(gluing, degree)[0])
                if len(gluing) < 3:
                    self.assertEqual(found, len(told_images(group_of(gluing), degree)))
        self.assertEqual([image_count(gluing_of(PRISM), degree) for degree in (1, 2, 3)], [1, 2, 10])

    def test_errors_in_order(self):
        for n in (1, 3, 4, 40):
            for degree in (0, 4, -1, GREAT, -GREAT):
                with self.assertRaises(BadNumber):
                    image_count(ring(n, 0), degree)
        for n in (4, 5, 40):
            for degree in (1, 2, 3):
                with self.assertRaises(TooLarge):
                    image_count(ring(n, 1), degree)
        for text in (KLEIN, TURNED):
            with self.assertRaises(NotClosed):
                image_count(gluing_of(text), 0)


class ShownTest(unittest.TestCase):
    def test_answers_that_are_given(self):
        seen = set()
        for one, other in answered_pairs():
            answer = decide(one, other)
            self.assertEqual(shown(one, other, answer), shows(answer))
            seen.add(answer[0])
        self.assertEqual(seen, {"same", "homology", "sides", "covers", "open"})

    def test_open(self):
        for one, other in ((ring(1, 0), ring(1, 0)), (ring(2, 1), gluing_of(ONE_SIDED)), (ring(40, 1), ring(12, 1))):
            self.assertEqual(shown(one, other, ("open",)), "open")

    def test_homologies(self):
        one, other = ring(2, 1), ring(3, 1)
        forms, others = homology_forms(one), homology_forms(other)
        self.assertEqual(shown(one, other, ("homology", forms, others)), "other")
        self.assertEqual(shown(other, one, ("homology", others, forms)), "other")
        self.assertEqual(shown(one, other, ("homology", others, forms)), "none")
        self.assertEqual(shown(one, one, ("homology", forms, forms)), "none")
        self.assertEqual(shown(ring(5, 1), ring(5, 2), ("homology", homology_forms(ring(5, 1)), homology_forms(ring(5, 2)))), "none")
        for wrong in changed_forms(forms)[::3]:
            self.assertEqual(shown(one, other, ("homology", wrong, others)), "none")
        for wrong in changed_forms(others)[::3]:
            self.assertEqual(shown(one, other, ("homology", forms, wrong)), "none")
        # Only the dimension 2, or only the dimension 1, tells these two apart.
        one, other = gluing_of(ONE_SIDED), gluing_of(HANDLE)
        self.assertEqual(shown(one, other, ("homology", homology_forms(one), homology_forms(other))), "other")
        self.assertEqual(shown(ring(11, 1), ring(10, 1), ("homology", homology_forms(ring(11, 1)), homology_forms(ring(10, 1)))), "other")

    def test_sides(self):
        for one in (ring(2, 1), ring(12, 5), turned(gluing_of(HANDLE), 1)):
            for other in (gluing_of(ONE_SIDED), turned(gluing_of(PLANE_CIRCLE), 2)):
                signs = [list(some) for some in itertools.product((1, -1), repeat=min(len(one), 4))
                         if told_signs(one, some)] or [[1] * len(one)]
                circle = turning_circle(other)
                for some in signs + [[-sign for sign in signs[0]]]:
                    self.assertEqual(shown(one, other, ("sides", some, circle)), "other")
                    self.assertEqual(shown(other, one, ("sides", some, circle)), "other")
                    self.assertEqual(shown(one, one, ("sides", some, circle)), "none")
                    self.assertEqual(shown(other, other, ("sides", some, circle)), "none")
                    self.assertEqual(shown(one, other, ("sides", some, [])), "none")
                    self.assertEqual(shown(one, other, ("sides", some, circle * 2)), "none")
                    self.assertEqual(shown(one, other, ("sides", some + [1], circle)), "none")
                    self.assertEqual(shown(one, other, ("sides", [-some[0]] + some[1:], circle)), "none")

    def test_covers(self):
        fourth, prism = gluing_of(FOURTH), gluing_of(PRISM)
        told = [(fourth, prism, {3}), (ring(2, 1), ring(3, 1), {2, 3}), (ring(3, 1), gluing_of(EXAMPLE), {3}),
                (ring(3, 1), ring(3, 2), set()), (fourth, ring(2, 1), set()), (ring(4, 1), ring(3, 1), set()),
                (ring(3, 1), ring(4, 1), set()), (ring(40, 1), ring(2, 1), set())]
        for one, other, expected in told:
            for degree in (-1, 0, 1, 2, 3, 4, GREAT, -GREAT):
                self.assertEqual(shown(one, other, ("covers", degree)), "other" if degree in expected else "none")

    def test_as_the_other_modules_say(self):
        answers = [decide(first, second) for first, second, _ in other_pairs()]
        answers += [decide(first, second) for first, second in same_pairs()[:3]] + [("covers", 2), ("covers", 3)]
        for one, other in answered_pairs()[::2]:
            for answer in answers:
                expected = shows(answer) if is_answer(one, other, answer) else "none"
                self.assertEqual(shown(one, other, answer), expected)

    def test_no_contradictions(self):
        for one, other in same_pairs():
            found = {shown(one, other, decide(one, other))}
            for first, second, _ in other_pairs():
                found.add(shown(one, other, decide(first, second)))
            found |= {shown(one, other, ("covers", degree)) for degree in (2, 3)}
            found.add(shown(one, other, ("homology", homology_forms(one), homology_forms(other))))
            self.assertEqual(found, {"same", "none"})

    def test_gluings_behind_many_moves(self):
        for gluing in wandered(ring(3, 1), 5, "certificates"):
            self.assertNotEqual(shown(ring(3, 1), gluing, decide(ring(3, 1), gluing)), "other")


if __name__ == "__main__":
    unittest.main()
