"""Promises 80 to 82 and 85: logs, ways, undone, joined and shortened ways."""

import itertools
import random
import unittest

from tests.samples import (
    EXAMPLE, NO_PERMUTATIONS, ONE_SIDED, closed_gluings, gluing_of, open_gluings, random_renaming,
    renamed_by_words, ring, wrong_gluings)
from tests.told_moves import (
    ADDED, SPLIT, TWO_AROUND, is_told_way, told_can, told_gluing, told_gluings, told_moves)
from wedgespace.errors import BadMove, NotClosed, NotGluing, NotWay
from wedgespace.forms import renamings, standard_form
from wedgespace.gluings import is_joined, sides
from wedgespace.links import link_numbers
from wedgespace.moves import moves_of
from wedgespace.renaming import joined_renamings, same_names
from wedgespace.skeleton import euler_number, turned_edges
from wedgespace.undo import undoing
from wedgespace.ways import is_way, joined, replay, shortened, undone

GREAT = 10 ** 5000
STARTS = (ring(1, 0), ring(2, 1), ring(3, 1), ring(5, 2), gluing_of(ONE_SIDED), gluing_of(TWO_AROUND))


def random_log(gluing, steps, seed, most=9):
    """Return a log of some moves that are chosen at random, and the gluing behind it."""
    rng = random.Random(f"log {seed}")
    log = []
    for _ in range(steps):
        moves = [move for move in told_moves(len(gluing)) if told_can(gluing, move)]
        moves = [move for move in moves if len(gluing) + ADDED[move[0]] <= most]
        kind = rng.choice(sorted({move[0] for move in moves}))
        log.append(rng.choice([move for move in moves if move[0] == kind]))
        gluing = told_gluing(gluing, log[-1])
    return tuple(log), gluing


def random_way(gluing, steps, seed):
    """Return a way with a number of moves from a gluing, and the gluing to which it leads."""
    log, end = random_log(gluing, steps, seed)
    renaming = random_renaming(len(end), seed)
    return (log, renaming), renamed_by_words(end, renaming)


class ReplayTest(unittest.TestCase):
    def test_logs(self):
        for k, start in enumerate(STARTS):
            self.assertEqual(replay(start, ()), [start])
            for steps in (1, 2, 5):
                log, end = random_log(start, steps, f"{k} {steps}")
                self.assertEqual(replay(start, log), told_gluings(start, log))
                self.assertEqual(replay(start, log)[-1], end)

    def test_first_bad_move(self):
        for k, start in enumerate(STARTS):
            log, end = random_log(start, 4, k)
            gluings = told_gluings(start, log)
            for at in range(5):
                n = len(gluings[at])
                bad = [("split", n), ("split", -1), ("join", 0, 4), ("face", 0, -1), ("edge", 0, GREAT)]
                bad += [move for move in told_moves(n) if not told_can(gluings[at], move)][::5]
                for move in bad:
                    for later in (log[at:], (), (move, move)):
                        with self.assertRaises(BadMove) as caught:
                            replay(start, log[:at] + (move,) + later)
                        self.assertEqual(caught.exception.at, at)

    def test_too_many_tetrahedra(self):
        self.assertEqual(len(replay(ring(37, 1), (("split", 36),))[-1]), 40)
        for log, at in (((("split", 0), ("split", 0)), 1), ((("face", 0, 0), ("split", 0)), 1),
                        ((("face", 0, 0),) * 4, 3), ((("split", 0), ("face", 0, 2)), 1)):
            with self.assertRaises(BadMove) as caught:
                replay(ring(37, 1), log)
            self.assertEqual(caught.exception.at, at)
        with self.assertRaises(BadMove) as caught:
            replay(ring(40, 1), (("split", 0),))
        self.assertEqual(caught.exception.at, 0)
        # From forty tetrahedra down, and up again.
        log = (("split", 36), ("join", 39, 3), ("split", 0), ("edge", 39, 4), ("face", 0, 0))
        self.assertEqual([len(gluing) for gluing in replay(ring(37, 1), log)], [37, 40, 37, 40, 39, 40])

    def test_errors_in_order(self):
        for gluing, at in wrong_gluings():
            with self.assertRaises(NotGluing) as caught:
                replay(gluing, (("split", -1),))
            self.assertEqual(caught.exception.at, at)
        for gluing in open_gluings():
            for log in ((), (("split", -1),)):
                with self.assertRaises(NotClosed):
                    replay(gluing, log)


class IsWayTest(unittest.TestCase):
    def test_right_pairs(self):
        for k, start in enumerate(STARTS):
            self.assertIs(is_way(start, start, ((), same_names(len(start)))), True)
            for steps in range(5):
                way, end = random_way(start, steps, f"{k} {steps}")
                self.assertIs(is_way(start, end, way), True)

    def test_wrong_pairs(self):
        for k, start in enumerate(STARTS):
            (log, renaming), end = random_way(start, 3, k)
            n = len(end)
            # A log that cannot be replayed.
            for move in (("split", 12), ("split", -1), ("join", 0, GREAT), ("edge", 0, 6)):
                for at in range(4):
                    self.assertIs(is_way(start, end, (log[:at] + (move,) + log[at:], renaming)), False)
            # Tuples that are no renamings, or ones of another length.
            same = (0, 1, 2, 3)
            others = [(), renaming[:-1], renaming + ((n, same),), random_renaming(n + 1, k),
                      renaming[:-1] + ((n, same),), renaming[:-1] + ((-GREAT, same),)]
            others += [((renaming[0][0], p),) + renaming[1:] for p in NO_PERMUTATIONS]
            for other in others:
                self.assertIs(is_way(start, end, (log, other)), False)
            # Renamings that lead elsewhere.
            for seed in range(8):
                other = random_renaming(n, f"other {seed}")
                self.assertIs(is_way(start, end, (log, other)), is_told_way(start, end, (log, other)))
            self.assertIs(is_way(start, end, ((), same_names(len(start)))), start == end)

    def test_another_number_of_tetrahedra(self):
        way, end = random_way(ring(3, 1), 2, 0)
        self.assertIs(is_way(ring(3, 1), ring(12, 5), way), False)
        self.assertIs(is_way(ring(3, 1), ring(1, 0), ((), same_names(3))), False)
        self.assertIs(is_way(ring(3, 1), ring(1, 0), ((), same_names(1))), False)

    def test_too_many_tetrahedra(self):
        start = ring(38, 1)
        end = told_gluing(start, ("split", 0))
        self.assertEqual(len(end), 41)
        way = ((("split", 0), ("join", 37, 0)), same_names(38))
        self.assertIs(is_way(start, start, way), False)

    def test_ways_between_symmetric_gluings(self):
        for gluing in (ring(3, 1), ring(5, 2), gluing_of(EXAMPLE)):
            for renaming in renamings(gluing, gluing):
                self.assertIs(is_way(gluing, gluing, ((), renaming)), True)


class ErrorsTest(unittest.TestCase):
    def test_gluings_in_order(self):
        good = ring(3, 1)
        way = ((), same_names(3))
        no_way = ((("split", -1),), ())
        wrong = [(gluing, NotGluing, at) for gluing, at in wrong_gluings()]
        wrong += [(gluing, NotClosed, None) for gluing in open_gluings()]
        for gluing, error, at in wrong:
            for pair in (way, no_way):
                calls = [lambda: joined(gluing, good, good, pair, pair),
                         lambda: joined(good, gluing, good, pair, pair),
                         lambda: joined(good, good, gluing, pair, pair)]
                for function in (is_way, undone, shortened):
                    calls += [lambda: function(gluing, good, pair), lambda: function(good, gluing, pair)]
                    for call in calls:
                        with self.assertRaises(error) as caught:
                            call()
                        if at is not None:
                            self.assertEqual(caught.exception.at, at)

    def test_the_first_wrong_gluing(self):
        first = ring(41, 1)
        second = gluing_of("0:1023 0:1023 0:1023 0:1023")
        way = ((), ())
        for function in (is_way, undone, shortened):
            with self.assertRaises(NotGluing) as caught:
                function(second, first, way)
            self.assertEqual(caught.exception.at, 2)
            with self.assertRaises(NotGluing) as caught:
                function(first, second, way)
            self.assertEqual(caught.exception.at, 0)
            with self.assertRaises(NotClosed):
                function(open_gluings()[0], second, way)
            with self.assertRaises(NotGluing):
                function(second, open_gluings()[0], way)
        with self.assertRaises(NotGluing) as caught:
            joined(ring(2, 1), second, first, way, way)
        self.assertEqual(caught.exception.at, 2)

    def test_not_a_way(self):
        one = ring(3, 1)
        way, other = random_way(one, 2, 1)
        wrong = [(way[0] + (("split", 99),), way[1]), (way[0], ()), (way[0], random_renaming(len(other) + 1, 0)),
                 ((), same_names(3)), ((("split", -1),), way[1])]
        for pair in wrong:
            for function in (undone, shortened):
                with self.assertRaises(NotWay):
                    function(one, other, pair)
            with self.assertRaises(NotWay):
                joined(one, other, other, pair, ((), same_names(len(other))))
            with self.assertRaises(NotWay):
                joined(one, one, other, ((), same_names(3)), pair)
        # The way leads from the first one to the second one, not back.
        with self.assertRaises(NotWay):
            undone(other, one, way)


class UndoneTest(unittest.TestCase):
    def test_there_and_back(self):
        for k, start in enumerate(STARTS):
            for steps in range(6):
                way, end = random_way(start, steps, f"{k} {steps}")
                back = undone(start, end, way)
                self.assertEqual(len(back[0]), steps)
                self.assertTrue(is_told_way(end, start, back))
                again = undone(end, start, back)
                self.assertTrue(is_told_way(start, end, again))

    def test_each_kind_of_moves(self):
        # From every closed gluing a split, and the undone way has a join.
        for gluing in closed_gluings():
            end = told_gluing(gluing, ("split", 0))
            log, renaming = undone(gluing, end, ((("split", 0),), same_names(len(end))))
            self.assertEqual([move[0] for move in log], ["join"])
            self.assertTrue(is_told_way(end, gluing, (log, renaming)))
        for kind, back in (("join", "split"), ("face", "edge"), ("edge", "face")):
            move = [move for move in moves_of(gluing_of(SPLIT)) if move[0] == kind][-1]
            end = told_gluing(gluing_of(SPLIT), move)
            log, renaming = undone(gluing_of(SPLIT), end, ((move,), same_names(len(end))))
            self.assertEqual([move[0] for move in log], [back])

    def test_up_to_forty(self):
        start = ring(37, 1)
        log = (("split", 36), ("edge", 36, 0), ("face", 0, 0))
        end = told_gluings(start, log)[-1]
        back = undone(start, end, (log, same_names(40)))
        self.assertTrue(is_told_way(end, start, back))


class JoinedTest(unittest.TestCase):
    def test_two_ways(self):
        for k, start in enumerate(STARTS):
            for steps, more in itertools.product((0, 1, 3), repeat=2):
                first, middle = random_way(start, steps, f"{k} {steps}")
                second, end = random_way(middle, more, f"{k} {more} more")
                way = joined(start, middle, end, first, second)
                self.assertEqual(len(way[0]), steps + more)
                self.assertTrue(is_told_way(start, end, way))

    def test_connected_is_an_equivalence(self):
        for k, start in enumerate(STARTS):
            first, one = random_way(start, 2, f"{k} one")
            second, other = random_way(start, 3, f"{k} other")
            way = joined(one, start, other, undone(start, one, first), second)
            self.assertEqual(len(way[0]), 5)
            self.assertTrue(is_told_way(one, other, way))

    def test_the_first_of_two_wrong_ways(self):
        # Both are wrong: the error is the same, whichever is looked at first.
        with self.assertRaises(NotWay):
            joined(ring(3, 1), ring(2, 1), ring(1, 0), ((), ()), ((("split", -1),), ()))


class InvariantsTest(unittest.TestCase):
    def test_same_at_both_ends(self):
        for k, start in enumerate(STARTS):
            for seed in range(4):
                way, end = random_way(start, 5, f"{k} {seed}")
                self.assertIs(is_way(start, end, way), True)
                self.assertIs(is_joined(end), True)
                self.assertEqual(turned_edges(end), [])
                self.assertEqual(set(link_numbers(end)), {2})
                self.assertEqual(euler_number(start), euler_number(end))
                self.assertEqual(sides(start) is None, sides(end) is None)


class ShortenedTest(unittest.TestCase):
    def check(self, start, end, way):
        short = shortened(start, end, way)
        self.assertTrue(is_told_way(start, end, short))
        self.assertLessEqual(len(short[0]), len(way[0]))
        self.assertEqual((len(way[0]) - len(short[0])) % 2, 0)
        gluings = told_gluings(start, short[0])
        for k in range(len(short[0]) - 1):
            self.assertNotEqual(standard_form(gluings[k]), standard_form(gluings[k + 2]))
        return short

    def with_pair(self, start, log, at, pair_move):
        """Return the log with a move and its undoing move at an index, and the renaming at its end."""
        gluings = told_gluings(start, log)
        back, renaming = undoing(gluings[at], pair_move)
        behind = told_gluing(told_gluing(gluings[at], pair_move), back)
        # The moves behind the pair are made in the gluing that the renaming leads from.
        way = ((pair_move, back), renaming)
        rest = (log[at:], same_names(len(gluings[-1])))
        self.assertEqual(renamed_by_words(behind, renaming), gluings[at])
        joint = joined(gluings[at], gluings[at], gluings[-1], way, rest)
        return (log[:at] + joint[0], joint[1])

    def test_one_pair_anywhere(self):
        for k, start in enumerate(STARTS):
            log, end = random_log(start, 3, f"short {k}", most=6)
            short = self.check(start, end, (log, same_names(len(end))))
            gluings = told_gluings(start, log)
            for at in range(4):
                for move in moves_of(gluings[at])[::4]:
                    way = self.with_pair(start, log, at, move)
                    self.assertEqual(len(self.check(start, end, way)[0]), len(short[0]))

    def test_only_a_pair(self):
        for start in STARTS:
            for move in moves_of(start)[::3]:
                way = self.with_pair(start, (), 0, move)
                self.assertEqual(len(way[0]), 2)
                self.assertEqual(self.check(start, start, way)[0], ())

    def test_a_pair_within_a_pair(self):
        for k, start in enumerate(STARTS):
            log, end = random_log(start, 2, f"within {k}", most=6)
            short = self.check(start, end, (log, same_names(len(end))))
            for at in range(3):
                outer_log, outer = self.with_pair(start, log, at, ("split", 0))
                inner_log, inner = self.with_pair(start, outer_log, at + 1, ("split", 2))
                way = (inner_log, joined_renamings(inner, outer))
                self.assertEqual(len(inner_log), 6)
                self.assertEqual(len(self.check(start, end, way)[0]), len(short[0]))

    def test_random_ways(self):
        for k, start in enumerate(STARTS):
            for seed in range(3):
                way, end = random_way(start, 10, f"{k} {seed} long")
                self.check(start, end, way)

    def test_ways_back_and_forth(self):
        for k, start in enumerate(STARTS):
            way, end = random_way(start, 4, f"{k} forth")
            both = joined(start, end, start, way, undone(start, end, way))
            self.assertEqual(len(both[0]), 8)
            self.assertEqual(self.check(start, start, both)[0], ())

    def test_without_pairs(self):
        for start in STARTS:
            renaming = random_renaming(len(start), "short")
            way = ((), renaming)
            self.assertEqual(self.check(start, renamed_by_words(start, renaming), way), way)
        log = (("split", 0), ("split", 0), ("split", 0))
        end = told_gluings(ring(2, 1), log)[-1]
        self.assertEqual(self.check(ring(2, 1), end, (log, same_names(11))), (log, same_names(11)))

    def test_large_gluings(self):
        start = ring(36, 5)
        log = (("face", 0, 2), ("split", 3), ("join", 36, 0), ("face", 7, 1))
        gluings = told_gluings(start, log)
        short = shortened(start, gluings[-1], (log, same_names(38)))
        self.assertEqual([move[0] for move in short[0]], ["face", "face"])
        self.assertTrue(is_told_way(start, gluings[-1], short))


if __name__ == "__main__":
    unittest.main()
