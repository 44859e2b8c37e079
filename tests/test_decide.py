"""Promises 240 to 243: answers for two closed gluings, and what they show."""

import copy
import itertools
import unittest
from unittest import mock

from tests.samples import (
    EXAMPLE, FOURTH, HANDLE, KLEIN, NO_PERMUTATIONS, ONE_SIDED, PERMUTATIONS, PLANE_CIRCLE, PRISM, QUATERNIONS, gluing_of, is_odd,
    open_gluings, random_renaming, renamed_by_words, ring, wrong_gluings)
from tests.test_chains import told_border_matrix
from tests.test_diagonal import is_told_form
from tests.told_moves import SPLIT, is_told_way, many_closed_gluings, told_gluing, told_gluings
from wedgespace import decide as module
from wedgespace.chains import cell_counts, side_signs, turning_circle
from wedgespace.decide import decide, is_answer, shows, told_homology
from wedgespace.errors import NotClosed, NotGluing, TooLarge
from wedgespace.homology import homology, homology_forms
from wedgespace.walk import find_way

GREAT = 10 ** 5000
SHOWN = {"same": "same", "homology": "other", "sides": "other", "covers": "other", "open": "open"}


def turned(gluing, seed):
    return renamed_by_words(gluing, random_renaming(len(gluing), f"decide {seed}"))


def same_pairs():
    """Return pairs of gluings that moves connect, but no renaming."""
    split = gluing_of(SPLIT)
    told = [(gluing_of(EXAMPLE), split), (ring(2, 0), ring(1, 0)), (ring(2, 1), told_gluing(ring(2, 1), ("face", 0, 1))),
            (turned(told_gluing(gluing_of(ONE_SIDED), ("split", 1)), 1), gluing_of(ONE_SIDED)),
            (ring(5, 2), told_gluing(ring(5, 2), ("face", 3, 0))), (gluing_of(FOURTH), split_and_more(gluing_of(FOURTH))),
            (ring(3, 0), gluing_of(EXAMPLE))]
    return [pair for pair in told if find_way(*pair, most=min(6, max(map(len, pair)) + 1)) is not None]


def split_and_more(gluing):
    """Return the gluing behind a split and a face move within it."""
    return told_gluing(told_gluing(gluing, ("split", 0)), ("face", len(gluing), 0))


def other_pairs():
    """Return pairs of gluings with the kind of the answer for them, that no moves connect."""
    return [
        (ring(2, 1), gluing_of(ONE_SIDED), "sides"), (gluing_of(HANDLE), gluing_of(ONE_SIDED), "sides"),
        (gluing_of(PLANE_CIRCLE), ring(5, 2), "sides"), (ring(2, 1), ring(3, 1), "homology"),
        (gluing_of(HANDLE), gluing_of(EXAMPLE), "homology"), (gluing_of(ONE_SIDED), gluing_of(PLANE_CIRCLE), "homology"),
        (gluing_of(QUATERNIONS), ring(4, 1), "homology"), (ring(8, 3), ring(7, 1), "homology"),
        (gluing_of(PRISM), gluing_of(FOURTH), "covers")]


def answered_pairs():
    """Return pairs of gluings for which answers of all kinds are given, in both orders."""
    told = [(one, other) for one, other, _ in other_pairs()] + same_pairs()
    told += [(ring(5, 2), turned(ring(5, 2), 2)), (ring(5, 1), ring(5, 2)), (ring(7, 1), ring(7, 2))]
    return told + [(other, one) for one, other in told]


def told_circle(gluing, circle):
    """Return whether a list of pairs is a turning circle, by the words of the document."""
    if circle == [] or not all(0 <= t < len(gluing) and 0 <= f < 4 for t, f in circle):
        return False
    turn = 1
    for (t, f), (following, _) in zip(circle, circle[1:] + circle[:1]):
        u, p = gluing[t][f]
        if u != following:
            return False
        turn *= 1 if is_odd(p) else -1
    return turn == -1


def told_signs(gluing, signs):
    """Return whether a list of signs is one of the tetrahedra, by the words of the document."""
    return len(signs) == len(gluing) and set(signs) <= {1, -1} and all(
        signs[t] * signs[u] * (-1 if is_odd(p) else 1) == -1 for t, row in enumerate(gluing) for u, p in row)


def changed_forms(forms):
    """Return tuples of three diagonal forms of which one matrix was changed, in its entries or its size."""
    found = []
    for k, at in itertools.product(range(3), range(5)):
        matrix = forms[k][at]
        with_entry = copy.deepcopy(matrix)
        with_entry[-1][0] += 1
        for other in (with_entry, matrix[:-1], [row[:-1] for row in matrix], matrix + [matrix[0]], [],
                      [row + [0] for row in matrix], matrix[:-1] + [matrix[-1][:-1]]):
            form = forms[k][:at] + (other,) + forms[k][at + 1:]
            found.append(forms[:k] + (form,) + forms[k + 1:])
    return found


def wrong_ways(one, way):
    """Return pairs that are no ways to where a way leads."""
    log, renaming = way
    first = renaming[0]
    moves = [("split", -1), ("split", len(one)), ("join", 0, 4), ("face", 0, -1), ("edge", 0, 6), ("split", GREAT),
             ("join", 0, -1), ("face", 0, 4), ("edge", 0, -1),
             ("face", GREAT, 0), ("edge", 0, -GREAT), ("join", len(one), 0), ("face", len(one), 0), ("edge", -1, 0)]
    found = [((move, *log), renaming) for move in moves]
    found += [((("split", 0), *log), renaming), (log, ()), (log, renaming + renaming), (log, renaming[:-1])]
    found += [((*log, ("split", 0)), renaming), ((("split", 0),) * 14, renaming)]
    found += [(log, ((first[0], p), *renaming[1:])) for p in NO_PERMUTATIONS]
    found += [(log, ((u, first[1]), *renaming[1:])) for u in (-1, len(renaming), GREAT)]
    return found


class KindsTest(unittest.TestCase):
    def check(self, one, other, kind):
        answer = decide(one, other)
        self.assertEqual((type(answer), answer[0]), (tuple, kind))
        self.assertIs(is_answer(one, other, answer), True)
        self.assertEqual(shows(answer), SHOWN[kind])
        return answer

    def test_renamed_gluings(self):
        for k, gluing in enumerate([*many_closed_gluings(), ring(8, 3), ring(7, 2)]):
            other = turned(gluing, k)
            _, (log, renaming) = self.check(gluing, other, "same")
            self.assertEqual(log, ())
            self.assertEqual(renamed_by_words(gluing, renaming), other)

    def test_other_kinds(self):
        for one, other, kind in other_pairs():
            for first, second in ((one, other), (other, one), (turned(one, 1), turned(other, 2))):
                self.check_parts(first, second, self.check(first, second, kind))

    def check_parts(self, one, other, answer):
        if answer[0] == "sides":
            pair = (one, other) if side_signs(one) is not None else (other, one)
            self.assertTrue(told_signs(pair[0], answer[1]))
            self.assertTrue(told_circle(pair[1], answer[2]))
        elif answer[0] == "homology":
            for gluing, forms in zip((one, other), answer[1:]):
                self.assertEqual((type(forms), len(forms)), (tuple, 3))
                for k in (1, 2, 3):
                    count = cell_counts(gluing)[k - 1]
                    self.assertTrue(is_told_form(told_border_matrix(gluing, k), count, forms[k - 1]))
        else:
            self.assertEqual(answer, ("covers", 3))

    def test_ways(self):
        self.assertGreater(len(same_pairs()), 4)
        for one, other in same_pairs():
            for first, second in ((one, other), (other, one), (turned(one, 3), turned(other, 4))):
                _, way = self.check(first, second, "same")
                self.assertNotEqual(way[0], ())
                self.assertTrue(is_told_way(first, second, way))
                most = max(len(first), len(second)) + 1
                self.assertLessEqual(max(map(len, told_gluings(first, way[0]))), min(most, 6))

    def test_open_answers(self):
        for one, other in ((ring(5, 1), ring(5, 2)), (ring(7, 1), ring(7, 2)), (ring(8, 1), ring(8, 3))):
            self.assertEqual(decide(one, other), ("open",))
            self.assertEqual(decide(other, turned(one, 5)), ("open",))

    def test_how_far_ways_are_looked_for(self):
        for n, m, most in ((1, 1, 2), (1, 4, 5), (5, 5, 6), (6, 2, 6), (8, 7, 6), (5, 4, 6), (3, 2, 4)):
            with mock.patch.object(module, "some_renaming", return_value=None):
                with mock.patch.object(module, "find_way", return_value=None) as asked:
                    self.assertEqual(decide(ring(n, 0), ring(m, 0)), ("open",))
            self.assertEqual((asked.call_args.args, asked.call_args.kwargs), ((ring(n, 0), ring(m, 0)), {"most": most}))

    def test_the_order(self):
        # Each kind of answer would do for the pair, but those before it are given.
        sides = (gluing_of(ONE_SIDED), ring(3, 1))
        self.assertNotEqual(homology(sides[0], 1), homology(sides[1], 1))
        self.assertTrue(is_answer(*sides, ("covers", 2)))
        self.check(*sides, "sides")
        pair = (ring(2, 1), ring(3, 1))
        self.assertTrue(is_answer(*pair, ("covers", 2)))
        self.assertTrue(is_answer(*pair, ("covers", 3)))
        self.check(*pair, "homology")
        with mock.patch.object(module, "answer_by_homology", return_value=None):
            self.assertEqual(decide(*pair), ("covers", 2))
            self.assertEqual(decide(gluing_of(EXAMPLE), ring(3, 1)), ("covers", 3))

    def test_results_are_new_lists(self):
        for one, other, kind in other_pairs():
            answer = decide(one, other)
            before = copy.deepcopy(answer)
            for part in answer[1:]:
                if kind == "homology":
                    part[1][0].clear()
                elif kind == "sides":
                    part.clear()
            self.assertEqual(decide(one, other), before)


class AnswerTest(unittest.TestCase):
    def test_open(self):
        for one, other in answered_pairs():
            self.assertIs(is_answer(one, other, ("open",)), True)

    def test_changed_ways(self):
        pairs = same_pairs() + [(ring(3, 1), turned(ring(3, 1), 1)), (ring(8, 3), turned(ring(8, 3), 1))]
        for one, other in pairs:
            kind, way = decide(one, other)
            self.assertTrue(is_answer(one, other, (kind, way)))
            for wrong in wrong_ways(one, way):
                self.assertIs(is_answer(one, other, ("same", wrong)), False)
            (u, p), *rest = way[1]
            for other_p in PERMUTATIONS:
                changed = (way[0], ((u, other_p), *rest))
                self.assertIs(is_answer(one, other, ("same", changed)), is_told_way(one, other, changed))
            self.assertIs(is_answer(other, one, (kind, way)), False)

    def test_changed_forms(self):
        one, other = ring(2, 1), ring(3, 1)
        _, forms, others = decide(one, other)
        for wrong in changed_forms(forms):
            self.assertIs(is_answer(one, other, ("homology", wrong, others)), False)
        for wrong in changed_forms(others):
            self.assertIs(is_answer(one, other, ("homology", forms, wrong)), False)
        self.assertIs(is_answer(one, other, ("homology", others, forms)), False)
        self.assertIs(is_answer(other, one, ("homology", others, forms)), True)
        self.assertIs(is_answer(other, one, ("homology", forms, others)), False)

    def test_homologies_that_do_not_differ(self):
        for one, other in same_pairs() + [(ring(5, 1), ring(5, 2)), (ring(3, 1), ring(3, 1))]:
            answer = ("homology", homology_forms(one), homology_forms(other))
            self.assertIs(is_answer(one, other, answer), False)

    def test_homologies_that_differ_in_one_dimension(self):
        told = {2: (gluing_of(ONE_SIDED), gluing_of(HANDLE)), 1: (ring(2, 1), ring(3, 1))}
        for dimension, (one, other) in told.items():
            self.assertNotEqual(homology(one, dimension), homology(other, dimension))
            self.assertIs(is_answer(one, other, ("homology", homology_forms(one), homology_forms(other))), True)
        self.assertEqual(homology(told[2][0], 1), homology(told[2][1], 1))

    def test_changed_signs_and_circles(self):
        for one, other in ((ring(3, 1), gluing_of(ONE_SIDED)), (gluing_of(PLANE_CIRCLE), gluing_of(HANDLE))):
            _, signs, circle = decide(one, other)
            self.assertIs(is_answer(one, other, ("sides", [-sign for sign in signs], circle)), True)
            wrong = [[], signs[:-1], signs + [1], [0] + signs[1:], [GREAT] + signs[1:], [2 * sign for sign in signs]]
            wrong += [signs[:k] + [-signs[k]] + signs[k + 1:] for k in range(len(signs))]
            for some in wrong:
                self.assertIs(is_answer(one, other, ("sides", some, circle)), False)
                self.assertIs(is_answer(other, one, ("sides", some, circle)), False)
            bent = [[], circle * 2, circle[:-1] + [(circle[-1][0], 4)], [(GREAT, 0)], [(-1, 0)], [(0, -1)],
                     [(0, GREAT)], [(2, 0)], [(3, 0)], [(0, 4)]]
            bent += [circle[:k] + [(circle[k][0], f)] + circle[k + 1:] for k in range(len(circle)) for f in range(4)]
            bent += [circle[1:] + circle[:1], circle[:-1], circle + circle[:1], circle + [(0, 0)]]
            turning = gluing_of(ONE_SIDED) if one == ring(3, 1) else one
            for some in bent:
                expected = told_circle(turning, some)
                self.assertIs(is_answer(one, other, ("sides", signs, some)), expected)
                self.assertIs(is_answer(other, one, ("sides", signs, some)), expected)

    def test_two_gluings_with_sides_or_without(self):
        circle = turning_circle(gluing_of(ONE_SIDED))
        for one, other in ((ring(2, 1), gluing_of(HANDLE)), (gluing_of(ONE_SIDED), gluing_of(ONE_SIDED))):
            for signs in ([1, 1], [1, -1], [-1, 1], [-1, -1]):
                self.assertIs(is_answer(one, other, ("sides", signs, circle)), False)

    def test_covers(self):
        fourth, prism = gluing_of(FOURTH), gluing_of(PRISM)
        told = [(fourth, prism, {3}), (ring(2, 1), ring(3, 1), {2, 3}), (ring(3, 1), gluing_of(EXAMPLE), {3}),
                (ring(3, 1), ring(3, 2), set()), (fourth, ring(2, 1), set()), (gluing_of(QUATERNIONS), fourth, {2, 3}),
                (gluing_of(HANDLE), gluing_of(ONE_SIDED), set())]
        for one, other, expected in told:
            for degree in (-1, 0, 1, 2, 3, 4, GREAT, -GREAT):
                self.assertIs(is_answer(one, other, ("covers", degree)), degree in expected)
                self.assertIs(is_answer(other, one, ("covers", degree)), degree in expected)
        # One of them has four tetrahedra: the numbers differ, but this is no answer.
        for degree in (2, 3):
            self.assertIs(is_answer(ring(2, 1), told_gluing(gluing_of(EXAMPLE), ("split", 0)), ("covers", degree)), False)
            self.assertIs(is_answer(ring(4, 1), ring(3, 1), ("covers", degree)), False)


class ShowsTest(unittest.TestCase):
    def test_each_kind(self):
        told = {("same", ((), ())): "same", ("homology", (), ()): "other", ("covers", 7): "other", ("open",): "open"}
        for answer, expected in told.items():
            self.assertEqual(shows(answer), expected)
        self.assertEqual(shows(("sides", [], [])), "other")

    def test_told_homologies(self):
        for gluing in [*many_closed_gluings()[::5], gluing_of(PLANE_CIRCLE), gluing_of(QUATERNIONS), ring(12, 4)]:
            found = told_homology(homology_forms(gluing), cell_counts(gluing))
            self.assertEqual(found, [homology(gluing, k) for k in range(4)])
            self.assertEqual({type(pair) for pair in found}, {tuple})

    def test_told_homologies_of_other_forms(self):
        def form(entries, height, width):
            diagonal = [[entries[i] if i == j and i < len(entries) else 0 for j in range(width)] for i in range(height)]
            return ([], [], diagonal, [], [])
        forms = (form([1, 3], 3, 2), form([1, 1, 2, 6], 5, 4), form([5], 1, 5))
        self.assertEqual(told_homology(forms, [2, 4, 5, 1]), [(0, [3]), (-2, [2, 6]), (0, [5]), (0, [])])
        self.assertEqual(told_homology((form([], 1, 1),) * 3, [1, 1, 1, 1]), [(1, [])] * 4)


class AgreementTest(unittest.TestCase):
    def test_both_orders_and_renamed_gluings(self):
        for k, (one, other) in enumerate(answered_pairs()):
            told = {shows(decide(one, other)), shows(decide(other, one)), shows(decide(turned(one, k), turned(other, -k)))}
            self.assertEqual(len(told - {"open"}) <= 1, True)
            self.assertFalse({"same", "other"} <= told)

    def test_three_gluings(self):
        some = [ring(1, 0), ring(2, 0), ring(3, 0), ring(2, 1), gluing_of(FOURTH), gluing_of(PRISM), gluing_of(SPLIT),
                gluing_of(ONE_SIDED), ring(5, 1), ring(5, 4), told_gluing(ring(2, 1), ("face", 0, 1)), ring(4, 1)]
        found = {(i, j): shows(decide(some[i], some[j])) for i in range(len(some)) for j in range(len(some))}
        self.assertEqual(set(found.values()), {"same", "other", "open"})
        for i, j, k in itertools.product(range(len(some)), repeat=3):
            if found[(i, j)] == found[(j, k)] == "same":
                self.assertNotEqual(found[(i, k)], "other")
            self.assertNotEqual({found[(i, j)], found[(j, i)]}, {"same", "other"})

    def test_gluings_behind_moves(self):
        for gluing in (gluing_of(FOURTH), ring(2, 1), gluing_of(ONE_SIDED), gluing_of(HANDLE)):
            behind = split_and_more(gluing)
            self.assertNotEqual(shows(decide(gluing, behind)), "other")
            for other in (gluing_of(EXAMPLE), ring(3, 1), gluing_of(PLANE_CIRCLE)):
                self.assertEqual(shows(decide(gluing, other)), shows(decide(behind, other)))

    def test_no_answer_of_another_kind(self):
        # Whatever one pair is answered does not show the contrary for another one that is connected to it.
        for one, other in same_pairs():
            for first, second, _ in other_pairs():
                answer = decide(first, second)
                self.assertIs(is_answer(one, other, answer), False)


class ErrorsTest(unittest.TestCase):
    def test_errors_in_order(self):
        calls = [decide, lambda one, other: is_answer(one, other, ("open",)),
                 lambda one, other: is_answer(one, other, ("same", ((), ()))),
                 lambda one, other: is_answer(one, other, ("covers", 2))]
        for call in calls:
            for gluing, at in wrong_gluings():
                for other in (ring(2, 1), gluing_of(KLEIN), ring(9, 1), ()):
                    with self.assertRaises(NotGluing) as caught:
                        call(gluing, other)
                    self.assertEqual(caught.exception.at, at)
                for one in (ring(2, 1), ring(9, 1)):
                    with self.assertRaises(NotGluing) as caught:
                        call(one, gluing)
                    self.assertEqual(caught.exception.at, at)
            for gluing in open_gluings():
                for other in (ring(2, 1), ring(9, 1), ()):
                    with self.assertRaises(NotClosed):
                        call(gluing, other)
                for one in (ring(2, 1), ring(9, 1)):
                    with self.assertRaises(NotClosed):
                        call(one, gluing)
            for n in (9, 10, 40):
                for one, other in ((ring(n, 1), ring(2, 1)), (ring(8, 1), ring(n, 1)), (ring(n, 1), ring(n, 1))):
                    with self.assertRaises(TooLarge):
                        call(one, other)
        self.assertEqual(decide(ring(8, 1), ring(8, 7))[0], "same")


if __name__ == "__main__":
    unittest.main()
