"""The whole program: what moves and renamings do not change, told by lines of a journal."""

import random
import unittest

from tests.samples import FOURTH, HANDLE, ONE_SIDED, PRISM, QUATERNIONS, gluing_of, random_renaming, ring
from wedgespace.certificates import is_way, shown
from wedgespace.decide import decide
from wedgespace.errors import BadJournal
from wedgespace.forms import standard_form
from wedgespace.journal import Journal, attempt, resume
from wedgespace.moves import made, moves_of
from wedgespace.renaming import renamed, same_names
from wedgespace.rings import ring_numbers
from wedgespace.texts import read_gluing, text_of
from wedgespace.undo import undoing
from wedgespace.ways import joined, shortened, undone

# What connected gluings of at most 5 tetrahedra have in common.
QUESTIONS = ["isjoined X", "isclosed X", "turns X", "homology X 0", "homology X 1", "homology X 2", "homology X 3",
             "covers X 1", "covers X 2", "covers X 3"]


def starts():
    return [ring(2, 1), gluing_of(FOURTH), gluing_of(ONE_SIDED), gluing_of(HANDLE), gluing_of(QUATERNIONS), gluing_of(PRISM)]


def answers_for(journal, name):
    return [journal.answer(question.replace("X", name)) for question in QUESTIONS]


def some_moves(gluing, count, seed):
    """Return a log of moves that are chosen at random, and the gluing behind it."""
    rng = random.Random(f"whole {seed}")
    log = []
    for _ in range(count):
        kinds = ("join", "edge") if len(gluing) > 4 else ("face", "edge", "join") if len(gluing) > 2 else ("split", "face")
        moves = moves_of(gluing, kinds=kinds) or moves_of(gluing, kinds=("split",))
        log.append(rng.choice(moves))
        gluing = made(gluing, log[-1])
    return tuple(log), gluing


class WholeTest(unittest.TestCase):
    def test_moves_by_lines(self):
        for seed, start in enumerate(starts()):
            journal = Journal()
            journal.answer(f"gluing a {text_of(start)}")
            expected = answers_for(journal, "a")
            log, end = some_moves(start, 6, seed)
            journal.answer("union x a a")
            journal.answer(f"gluing b {text_of(start)}")
            for move in log:
                numbers = " ".join(map(str, move[1:]))
                self.assertEqual(journal.answer(f"{move[0]} b b {numbers}"), "ok")
                if len(read_gluing(journal.answer("show b"))) <= 5:
                    self.assertEqual(answers_for(journal, "b"), expected)
            self.assertNotIn("other", journal.answer("decide a b"))
            self.assertNotIn("other", journal.answer("decide b a"))
            self.assertEqual(journal.answer("show b"), text_of(end))
            other = resume(journal.record())
            self.assertEqual((other.record(), other.lines()), (journal.record(), journal.lines()))
            self.assertEqual(other.answer("show b"), text_of(end))

    def test_ways_there_and_back(self):
        for seed, start in enumerate(starts()):
            log, end = some_moves(start, 4, seed)
            way = (log, same_names(len(end)))
            self.assertTrue(is_way(start, end, way))
            back = undone(start, end, way)
            self.assertTrue(is_way(end, start, back))
            round_way = joined(start, end, start, way, back)
            self.assertTrue(is_way(start, start, round_way))
            short = shortened(start, start, round_way)
            self.assertTrue(is_way(start, start, short))
            self.assertEqual(short[0], ())
            self.assertEqual(shown(start, end, ("same", way)), "same")
            for other in starts():
                if other != start:
                    self.assertNotEqual(shown(start, end, decide(start, other)), "other")

    def test_undone_moves(self):
        for start in starts():
            for move in moves_of(start):
                behind = made(start, move)
                back, renaming = undoing(start, move)
                self.assertEqual(renamed(made(behind, back), renaming), start)
                self.assertTrue(is_way(behind, start, ((back,), renaming)))

    def test_renamed_gluings(self):
        for seed, start in enumerate(starts()):
            other = renamed(start, random_renaming(len(start), f"whole {seed}"))
            journal = Journal()
            told, _ = attempt(journal, [f"gluing a {text_of(start)}", f"gluing b {text_of(other)}", "alike a b", "decide a b",
                                        "form a a", "form b b", "show a", "show b"], keep=True)
            self.assertEqual(told[:6], ["ok", "ok", "yes", "same same", "ok", "ok"])
            self.assertEqual(told[6], told[7])
            self.assertEqual(read_gluing(told[6]), standard_form(start))
            self.assertEqual(ring_numbers(start), ring_numbers(other))
            record = journal.record()
            with self.assertRaises(BadJournal) as caught:
                resume(record.replace("< yes", "< no"))
            self.assertEqual(caught.exception.row, 5)


if __name__ == "__main__":
    unittest.main()
