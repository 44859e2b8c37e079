"""Promises 60 to 67 and 70: moves."""

import itertools
import unittest

from tests.samples import (
    EXAMPLE, closed_gluings, gluing_of, open_gluings, random_renaming, renamed_by_words, ring,
    wrong_gluings)
from tests.told_moves import (
    ADDED, APART_JOIN, BACK, EDGES, MIXED_EDGE, MIXED_JOIN, SPLIT, TWO_AROUND, many_closed_gluings,
    others_than, told_can, told_gluing, told_moves)
from wedgespace.errors import BadMove, BadNumber, NotClosed, NotGluing, TooLarge
from wedgespace.forms import standard_form
from wedgespace.gluings import is_gluing
from wedgespace.links import is_closed
from wedgespace.moves import can, made, moves_of
from wedgespace.skeleton import around, corner_classes, degrees, edge_classes


class CanTest(unittest.TestCase):
    def test_each_split(self):
        for gluing in closed_gluings():
            for t in range(len(gluing)):
                self.assertIs(can(gluing, ("split", t)), True)

    def test_joins_behind_a_split(self):
        gluing = gluing_of(SPLIT)
        for t in range(4):
            for i in range(4):
                self.assertIs(can(gluing, ("join", t, i)), t == i)

    def test_joins_that_cannot_be_made(self):
        # Not four different tetrahedra.
        for i in range(4):
            self.assertIs(can(gluing_of(EXAMPLE), ("join", 0, i)), False)
            self.assertIs(can(ring(3, 1), ("join", 0, i)), False)
        # The faces fit as behind a split, but all of them belong to one tetrahedron.
        self.assertIs(can(gluing_of("0:1230 0:3012 0:2031 0:1302"), ("join", 0, 0)), False)
        # Four different ones, of which two are not glued.
        gluing = gluing_of(APART_JOIN)
        self.assertEqual({gluing[0][j][0] for j in (1, 2, 3)}, {1, 2, 3})
        self.assertIs(can(gluing, ("join", 0, 0)), False)
        # All of them are glued, but not as behind a split.
        gluing = gluing_of(MIXED_JOIN)
        for j, k in itertools.permutations((0, 2, 3), 2):
            u, p = gluing[1][j]
            self.assertEqual(gluing[u][p[k]][0], gluing[1][k][0])
        self.assertIs(can(gluing, ("join", 1, 1)), False)

    def test_faces(self):
        for f in range(4):
            self.assertIs(can(gluing_of(EXAMPLE), ("face", 0, f)), False)
            self.assertIs(can(ring(2, 1), ("face", 1, f)), True)
            # The faces 0 and 1 are glued to those of the same tetrahedron.
            self.assertIs(can(ring(2, 0), ("face", 1, f)), f > 1)

    def test_edges(self):
        self.assertEqual([can(ring(3, 1), ("edge", 0, e)) for e in range(6)],
                         [True, False, False, False, False, True])
        self.assertEqual([can(ring(3, 0), ("edge", 2, e)) for e in range(6)],
                         [True, False, False, False, False, False])

    def test_edges_that_cannot_be_made(self):
        # Two of the three tetrahedra are the same: each of the pairs, and all of them.
        told = [("1:1230 1:1230 1:0132 1:1230 / 0:3012 0:3012 0:3012 0:0132", 0),
                ("1:2103 0:0213 0:0213 1:2103 / 1:1023 1:1023 0:2103 0:2103", 4),
                ("0:1023 0:1023 1:0132 1:0132 / 1:1023 1:1023 0:0132 0:0132", 1), (EXAMPLE, 0)]
        seen = set()
        for text, e in told:
            gluing = gluing_of(text)
            k, l = others_than(*EDGES[e])
            u, v = gluing[0][k][0], gluing[0][l][0]
            seen.add((u == 0, v == 0, u == v))
            self.assertIs(can(gluing, ("edge", 0, e)), False)
        self.assertEqual(len(seen), 4)
        # Three places around the edge, but not in three different tetrahedra.
        gluing = gluing_of(TWO_AROUND)
        for t, e in ((0, 0), (1, 0), (1, 5)):
            i, j = EDGES[e]
            k = others_than(i, j)[0]
            self.assertEqual(len(around(gluing, t, i, j, k)), 3)
            self.assertIs(can(gluing, ("edge", t, e)), False)
        # Four tetrahedra around the edge.
        self.assertEqual(len(around(ring(4, 1), 0, 0, 1, 2)), 4)
        self.assertIs(can(ring(4, 1), ("edge", 0, 0)), False)
        # The third of three different ones is glued to the second one, but not as around three.
        gluing = gluing_of(MIXED_EDGE)
        (u, p), (v, _) = gluing[0][0], gluing[0][2]
        self.assertEqual(({u, v}, gluing[u][p[2]][0]), ({1, 2}, v))
        self.assertIs(can(gluing, ("edge", 0, 4)), False)

    def test_by_the_words(self):
        possible = {kind: 0 for kind in ADDED}
        for gluing in many_closed_gluings():
            for move in told_moves(len(gluing)):
                expected = told_can(gluing, move)
                self.assertIs(can(gluing, move), expected)
                possible[move[0]] += expected
        self.assertGreater(min(possible.values()), 25)

    def test_numbers_that_there_are_not(self):
        for gluing in (gluing_of(EXAMPLE), gluing_of(SPLIT), ring(3, 1), ring(2, 1)):
            n = len(gluing)
            for t in (-1, -n, n, n + 1, 10 ** 30, -10 ** 30):
                for move in (("split", t), ("join", t, 0), ("face", t, 0), ("edge", t, 0)):
                    self.assertIs(can(gluing, move), False)
                    with self.assertRaises(BadMove) as caught:
                        made(gluing, move)
                    self.assertEqual(caught.exception.at, 0)
            for number in (-1, -4, 4, 5, 10 ** 30, -10 ** 30):
                for t in range(n):
                    for kind in ("join", "face"):
                        self.assertIs(can(gluing, (kind, t, number)), False)
                        with self.assertRaises(BadMove):
                            made(gluing, (kind, t, number))
            for number in (-1, -6, 6, 7, 10 ** 30, -10 ** 30):
                for t in range(n):
                    self.assertIs(can(gluing, ("edge", t, number)), False)
                    with self.assertRaises(BadMove):
                        made(gluing, ("edge", t, number))


class MadeTest(unittest.TestCase):
    def test_told_split(self):
        self.assertEqual(made(gluing_of(EXAMPLE), ("split", 0)), gluing_of(SPLIT))
        # The other tetrahedron comes first.
        told = ("2:1023 1:1023 4:0132 3:0132 / 0:1023 2:1023 3:2103 4:3120"
                " / 1:1023 0:1023 3:0213 4:0321 / 1:2103 2:0213 0:0132 4:0132"
                " / 1:3120 2:0321 3:0132 0:0132")
        self.assertEqual(made(ring(2, 1), ("split", 0)), gluing_of(told))

    def test_told_join(self):
        for t in range(4):
            self.assertEqual(made(gluing_of(SPLIT), ("join", t, t)), gluing_of(EXAMPLE))
        behind = made(ring(2, 1), ("split", 0))
        self.assertEqual(made(behind, ("join", 3, 2)), renamed_by_words(
            ring(2, 1), ((1, (0, 1, 2, 3)), (0, (0, 1, 2, 3)))))

    def test_told_face_and_edge_moves(self):
        behind = gluing_of("1:1023 1:1023 1:1023 2:3120 / 0:1023 0:1023 0:1023 2:0321"
                           " / 0:3120 1:0321 2:0132 2:0132")
        self.assertEqual(made(ring(2, 0), ("face", 0, 2)), behind)
        back = gluing_of("1:2103 0:0213 0:0213 1:2103 / 1:1023 1:1023 0:2103 0:2103")
        self.assertEqual(made(behind, ("edge", 0, 1)), back)
        self.assertEqual(standard_form(back), standard_form(ring(2, 0)))

    def test_by_the_words(self):
        made_of = {kind: 0 for kind in ADDED}
        for gluing in many_closed_gluings():
            for move in told_moves(len(gluing)):
                if told_can(gluing, move):
                    self.assertEqual(made(gluing, move), told_gluing(gluing, move))
                    made_of[move[0]] += 1
                else:
                    with self.assertRaises(BadMove) as caught:
                        made(gluing, move)
                    self.assertEqual(caught.exception.at, 0)
        self.assertGreater(min(made_of.values()), 25)

    def test_counts_and_closed(self):
        for gluing in many_closed_gluings():
            corners, edges = len(corner_classes(gluing)), len(edge_classes(gluing))
            for move in moves_of(gluing):
                behind = made(gluing, move)
                self.assertTrue(is_gluing(behind) and is_closed(behind))
                self.assertEqual(len(behind) - len(gluing), ADDED[move[0]])
                more_corners = {"split": 1, "join": -1}.get(move[0], 0)
                self.assertEqual(len(corner_classes(behind)) - corners, more_corners)
                more_edges = ADDED[move[0]] + more_corners
                self.assertEqual(len(edge_classes(behind)) - edges, more_edges)
                self.assertEqual(sum(degrees(behind)), 6 * len(behind))

    def test_each_move_is_taken_back_by_a_move(self):
        for gluing in many_closed_gluings()[::3]:
            if len(gluing) > 5:
                continue
            form = standard_form(gluing)
            for move in moves_of(gluing):
                behind = made(gluing, move)
                backs = moves_of(behind, kinds=(BACK[move[0]],))
                self.assertIn(form, [standard_form(made(behind, back)) for back in backs])

    def test_moves_of_renamed_gluings(self):
        for gluing in [ring(3, 1), gluing_of(SPLIT), gluing_of(MIXED_JOIN), gluing_of(MIXED_EDGE)]:
            other = renamed_by_words(gluing, random_renaming(len(gluing), "moves"))
            for kind in ADDED:
                forms, other_forms = [
                    sorted(standard_form(made(one, move)) for move in moves_of(one, kinds=(kind,)))
                    for one in (gluing, other)]
                self.assertEqual(forms, other_forms)

    def test_too_large(self):
        for n, move, count in ((37, ("split", 5), 40), (38, ("face", 5, 1), 39), (39, ("face", 0, 2), 40)):
            self.assertEqual(len(made(ring(n, 1), move)), count)
        for n, move in ((38, ("split", 37)), (39, ("split", 0)), (40, ("split", 3)), (40, ("face", 39, 3))):
            self.assertIs(can(ring(n, 1), move), True)
            self.assertIn(move, moves_of(ring(n, 1)))
            with self.assertRaises(TooLarge):
                made(ring(n, 1), move)

    def test_large_gluings(self):
        gluing = made(ring(37, 1), ("split", 36))
        self.assertEqual(made(gluing, ("join", 36, 0)), ring(37, 1))
        self.assertEqual(made(gluing, ("edge", 36, 0)), told_gluing(gluing, ("edge", 36, 0)))
        self.assertEqual(made(ring(39, 5), ("face", 7, 3)), told_gluing(ring(39, 5), ("face", 7, 3)))
        with self.assertRaises(TooLarge):
            made(gluing, ("face", 36, 0))

    def test_errors_in_order(self):
        for gluing, at in wrong_gluings():
            for call in (lambda: made(gluing, ("split", -1)), lambda: can(gluing, ("split", 0)),
                         lambda: moves_of(gluing), lambda: moves_of(gluing, kinds=("wrong",))):
                with self.assertRaises(NotGluing) as caught:
                    call()
                self.assertEqual(caught.exception.at, at)
        for gluing in open_gluings():
            for call in (lambda: made(gluing, ("split", -1)), lambda: made(gluing, ("split", 0)),
                         lambda: can(gluing, ("split", 0)), lambda: can(gluing, ("join", 7, 7)),
                         lambda: moves_of(gluing), lambda: moves_of(gluing, kinds=("wrong",))):
                with self.assertRaises(NotClosed):
                    call()
        # A move that cannot be made would not lead to too many tetrahedra either.
        for move in (("split", 40), ("face", 0, 4), ("join", 0, 0), ("edge", 0, 0)):
            with self.assertRaises(BadMove):
                made(ring(40, 1), move)
        with self.assertRaises(BadMove):
            made(ring(40, 0), ("face", 0, 0))


class MovesOfTest(unittest.TestCase):
    def test_told_moves(self):
        self.assertEqual(moves_of(gluing_of(EXAMPLE)), [("split", 0)])
        self.assertEqual(moves_of(ring(3, 0)), [
            ("split", 0), ("split", 1), ("split", 2),
            ("face", 0, 2), ("face", 0, 3), ("face", 1, 2), ("face", 1, 3), ("face", 2, 2),
            ("face", 2, 3), ("edge", 0, 0), ("edge", 1, 0), ("edge", 2, 0)])
        self.assertEqual(moves_of(gluing_of(SPLIT), kinds=("join", "edge")), [
            ("join", 0, 0), ("join", 1, 1), ("join", 2, 2), ("join", 3, 3),
            ("edge", 0, 0), ("edge", 0, 1), ("edge", 0, 2), ("edge", 1, 0), ("edge", 1, 3),
            ("edge", 1, 4), ("edge", 2, 1), ("edge", 2, 3), ("edge", 2, 5), ("edge", 3, 2),
            ("edge", 3, 4), ("edge", 3, 5)])

    def test_all_moves_in_their_order(self):
        for gluing in many_closed_gluings():
            expected = [move for move in told_moves(len(gluing)) if told_can(gluing, move)]
            self.assertEqual(moves_of(gluing), expected)

    def test_some_kinds_in_any_order(self):
        gluing = gluing_of(SPLIT)
        everything = moves_of(gluing)
        for count in range(5):
            for kinds in itertools.permutations(ADDED, count):
                expected = [move for move in everything if move[0] in kinds]
                self.assertEqual(moves_of(gluing, kinds=kinds), expected)
        self.assertEqual(moves_of(gluing, kinds=("face", "split", "face")),
                         [move for move in everything if move[0] in ("split", "face")])

    def test_another_kind(self):
        for kinds in (("wrong",), ("split", "wrong"), ("",), ("Split",), ("splits", "join"), ("spli",)):
            with self.assertRaises(BadNumber):
                moves_of(ring(3, 1), kinds=kinds)

    def test_results_are_new_lists(self):
        moves_of(ring(2, 1)).clear()
        self.assertEqual(moves_of(ring(2, 1))[0], ("split", 0))


if __name__ == "__main__":
    unittest.main()
