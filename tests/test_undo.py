"""Promises 60, 68 and 69: moves that undo a move, and moves that go along with a renaming."""

import unittest

from tests.samples import (
    EXAMPLE, NO_PERMUTATIONS, ONE_SIDED, closed_gluings, gluing_of, open_gluings, random_renaming,
    renamed_by_words, ring, wrong_gluings)
from tests.told_moves import (
    BACK, MIXED_EDGE, MIXED_JOIN, SPLIT, many_closed_gluings, told_can, told_gluing, told_moves)
from wedgespace.errors import BadMove, NotClosed, NotGluing, NotRenaming, TooLarge
from wedgespace.renaming import is_renaming, same_names, undone_renaming
from wedgespace.undo import carried, undoing

GREAT = 10 ** 5000


def possible_moves(gluing):
    """Return the moves that can be made, by the words of the document."""
    return [move for move in told_moves(len(gluing)) if told_can(gluing, move)]


def bad_moves(gluing):
    """Return moves that cannot be made: with numbers that there are not, and others."""
    n = len(gluing)
    told = [move for move in told_moves(n) if not told_can(gluing, move)]
    for t in (-1, -n, n, n + 1, 10 ** 30, -GREAT, GREAT):
        told += [("split", t), ("join", t, 0), ("face", t, 0), ("edge", t, 0)]
    for k in (-1, -4, 4, 5, GREAT, -GREAT):
        told += [("join", 0, k), ("face", 0, k)]
    for e in (-1, -6, 6, 7, GREAT, -GREAT):
        told.append(("edge", n - 1, e))
    return told


def no_renamings(n):
    """Return tuples of pairs that are no renamings for n tetrahedra."""
    good = random_renaming(n, "good")
    same = (0, 1, 2, 3)
    told = [(), good[:-1], good + ((n, same),), random_renaming(n + 1, "longer")]
    for u in (-1, n, GREAT, -GREAT):
        told.append(good[:-1] + ((u, good[-1][1]),))
    for p in NO_PERMUTATIONS:
        told.append(((good[0][0], p),) + good[1:])
    if n > 1:
        told.append((good[1],) + good[1:])
    return told


class UndoingTest(unittest.TestCase):
    def check(self, gluing, move):
        back, renaming = undoing(gluing, move)
        behind = told_gluing(gluing, move)
        self.assertEqual(back[0], BACK[move[0]])
        self.assertIn(back, told_moves(len(behind)))
        self.assertTrue(told_can(behind, back))
        self.assertTrue(is_renaming(len(gluing), renaming))
        self.assertEqual(renamed_by_words(told_gluing(behind, back), renaming), gluing)

    def test_each_move_in_each_place(self):
        made = {kind: 0 for kind in BACK}
        for gluing in many_closed_gluings():
            for move in possible_moves(gluing):
                self.check(gluing, move)
                made[move[0]] += 1
        self.assertGreater(min(made.values()), 25)

    def test_told_places(self):
        # A join at each of the corners, an edge move at each of the edges of one class.
        for t in range(4):
            self.check(gluing_of(SPLIT), ("join", t, t))
        for move in (("edge", 0, 0), ("edge", 0, 5), ("edge", 2, 0)):
            self.check(ring(3, 1), move)

    def test_renamed_gluings(self):
        for seed in range(6):
            for gluing in (gluing_of(SPLIT), gluing_of(MIXED_JOIN), ring(3, 1), gluing_of(MIXED_EDGE)):
                other = renamed_by_words(gluing, random_renaming(len(gluing), seed))
                for move in possible_moves(other):
                    self.check(other, move)

    def test_large_gluings(self):
        for gluing, move in ((ring(37, 5), ("split", 17)), (ring(39, 1), ("face", 3, 2)),
                             (told_gluing(ring(37, 1), ("split", 4)), ("join", 38, 2)),
                             (told_gluing(ring(39, 1), ("face", 5, 2)), ("edge", 39, 5))):
            self.check(gluing, move)

    def test_errors_in_order(self):
        for gluing, at in wrong_gluings():
            for move in (("split", 0), ("split", -1)):
                with self.assertRaises(NotGluing) as caught:
                    undoing(gluing, move)
                self.assertEqual(caught.exception.at, at)
        for gluing in open_gluings():
            for move in (("split", 0), ("split", -1), ("edge", 0, 9)):
                with self.assertRaises(NotClosed):
                    undoing(gluing, move)
        for gluing in closed_gluings()[::3] + [gluing_of(EXAMPLE), gluing_of(ONE_SIDED)]:
            for move in bad_moves(gluing):
                with self.assertRaises(BadMove) as caught:
                    undoing(gluing, move)
                self.assertEqual(caught.exception.at, 0)

    def test_too_large(self):
        for n, move in ((38, ("split", 37)), (39, ("split", 0)), (40, ("split", 3)), (40, ("face", 39, 3))):
            with self.assertRaises(TooLarge):
                undoing(ring(n, 1), move)
        for n, move in ((38, ("split", 38)), (40, ("split", 40)), (40, ("face", 0, 4)), (40, ("join", 0, 0))):
            with self.assertRaises(BadMove):
                undoing(ring(n, 1), move)


class CarriedTest(unittest.TestCase):
    def check(self, gluing, renaming, move):
        other = renamed_by_words(gluing, renaming)
        back, behind = carried(gluing, renaming, move)
        self.assertEqual(back[0], move[0])
        self.assertIn(back, told_moves(len(gluing)))
        self.assertTrue(told_can(gluing, back))
        start = told_gluing(gluing, back)
        self.assertTrue(is_renaming(len(start), behind))
        self.assertEqual(renamed_by_words(start, behind), told_gluing(other, move))

    def test_each_move_along_several_renamings(self):
        made = {kind: 0 for kind in BACK}
        for gluing in many_closed_gluings():
            for seed in range(2):
                renaming = random_renaming(len(gluing), f"carried {seed}")
                for move in possible_moves(renamed_by_words(gluing, renaming)):
                    self.check(gluing, renaming, move)
                    made[move[0]] += 1
        self.assertGreater(min(made.values()), 50)

    def test_renamings_of_one_tetrahedron(self):
        # All 24 of them, even and odd ones.
        for seed in range(60):
            self.check(gluing_of(EXAMPLE), random_renaming(1, seed), ("split", 0))
            self.check(gluing_of(SPLIT), random_renaming(4, seed), ("split", seed % 4))

    def test_a_renaming_that_changes_nothing(self):
        for gluing in (ring(3, 1), gluing_of(SPLIT), gluing_of(ONE_SIDED)):
            for move in possible_moves(gluing):
                self.assertEqual(carried(gluing, same_names(len(gluing)), move)[0], move)

    def test_there_and_back(self):
        gluing = gluing_of(MIXED_EDGE)
        renaming = random_renaming(3, "there")
        other = renamed_by_words(gluing, renaming)
        for move in possible_moves(other):
            there, behind = carried(gluing, renaming, move)
            back, other_behind = carried(other, undone_renaming(renaming), there)
            self.assertEqual(told_gluing(other, back), renamed_by_words(
                told_gluing(gluing, there), undone_renaming(other_behind)))
            self.assertEqual(renamed_by_words(told_gluing(gluing, there), behind), told_gluing(other, move))

    def test_large_gluings(self):
        for gluing, move in ((ring(37, 5), ("split", 17)), (ring(39, 1), ("face", 3, 2))):
            for seed in range(3):
                renaming = random_renaming(len(gluing), seed)
                other = renamed_by_words(gluing, renaming)
                t = renaming[move[1]][0]
                self.check(gluing, renaming, (move[0], t, *move[2:]))
                self.assertTrue(told_can(other, ("split", t)))

    def test_errors_in_order(self):
        for gluing, at in wrong_gluings():
            for renaming in (((0, (0, 1, 2, 3)),), ()):
                with self.assertRaises(NotGluing) as caught:
                    carried(gluing, renaming, ("split", -1))
                self.assertEqual(caught.exception.at, at)
        for gluing in open_gluings():
            for renaming in (same_names(len(gluing)), ()):
                with self.assertRaises(NotClosed):
                    carried(gluing, renaming, ("split", 0))
        for gluing in (gluing_of(EXAMPLE), gluing_of(SPLIT), ring(3, 1), ring(40, 1)):
            for renaming in no_renamings(len(gluing)):
                for move in (("split", 0), ("split", -1), ("edge", 0, 9)):
                    with self.assertRaises(NotRenaming):
                        carried(gluing, renaming, move)

    def test_moves_that_cannot_be_made(self):
        for gluing in (gluing_of(EXAMPLE), gluing_of(SPLIT), ring(3, 1), gluing_of(ONE_SIDED)):
            for seed in range(4):
                renaming = random_renaming(len(gluing), seed)
                # What counts is the renamed gluing.
                for move in bad_moves(renamed_by_words(gluing, renaming)):
                    with self.assertRaises(BadMove) as caught:
                        carried(gluing, renaming, move)
                    self.assertEqual(caught.exception.at, 0)

    def test_too_large(self):
        for n, move in ((38, ("split", 37)), (39, ("split", 0)), (40, ("split", 3)), (40, ("face", 39, 3))):
            renaming = tuple((u, (0, 1, 2, 3)) for u, _ in random_renaming(n, "large"))
            with self.assertRaises(TooLarge):
                carried(ring(n, 1), renaming, move)
        with self.assertRaises(BadMove):
            carried(ring(40, 1), same_names(40), ("split", 40))
        with self.assertRaises(NotRenaming):
            carried(ring(40, 1), same_names(39), ("split", 0))


if __name__ == "__main__":
    unittest.main()
