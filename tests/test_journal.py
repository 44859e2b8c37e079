"""Promises 300 to 304: journals, records that are resumed, and trials."""

import unittest

from tests.samples import EXAMPLE
from wedgespace.desk import Desk
from wedgespace.errors import BadJournal, OpenTrial
from wedgespace.journal import Journal, attempt, resume

PERCENT = chr(37)
LINES = ["ring a 2 1", "size a", "", " size a", "show b", "ring a 0 0", "gluing b 0:1023 0:1023 0:0132 0:0132", "drop a",
         "~!{}", "size a", "decide b b", "x > < >"]
ANSWERS = ["ok", "2", "bad", "bad", "unknown b", "refused", "ok", "ok", "bad", "unknown a", "same same", "bad"]
UNRECORDED = [PERCENT, f"size a{PERCENT}", "size a\n", "\n", "size\ta", "a\x7f", "a\x1f", "\x00", "caf\u00e9", "a\u2028", "a\r"]


class Stop(Exception):
    """An exception of the tests."""


def written():
    """Return a journal with some lines, and its record."""
    journal = Journal()
    for line in LINES:
        journal.answer(line)
    return journal, journal.record()


def told_record(lines, answers):
    return "".join(f"> {line}\n< {answer}\n" for line, answer in zip(lines, answers))


class RecordTest(unittest.TestCase):
    def test_a_new_journal(self):
        self.assertEqual((Journal().record(), Journal().lines()), ("", []))

    def test_one_line(self):
        journal = Journal()
        self.assertEqual(journal.answer("ring a 5 2"), "ok")
        self.assertEqual(journal.record(), "> ring a 5 2\n< ok\n")
        self.assertEqual(journal.lines(), ["ring a 5 2"])

    def test_several_lines(self):
        journal, record = written()
        self.assertEqual([journal.answer(line) for line in ("size b", "size a")], ["1", "unknown a"])
        self.assertEqual(record, told_record(LINES, ANSWERS))
        self.assertEqual(journal.lines(), LINES + ["size b", "size a"])
        self.assertEqual(journal.record(), record + "> size b\n< 1\n> size a\n< unknown a\n")

    def test_as_a_desk_answers(self):
        journal, desk = Journal(), Desk()
        self.assertEqual([journal.answer(line) for line in LINES], desk.answers(LINES))

    def test_malformed_lines_are_recorded(self):
        for line in ("", " ", "  a", "a  ", "nothing"):
            journal = Journal()
            self.assertEqual(journal.answer(line), "bad")
            self.assertEqual((journal.record(), journal.lines()), (f"> {line}\n< bad\n", [line]))

    def test_lines_that_cannot_be_recorded(self):
        journal, record = written()
        for line in UNRECORDED:
            self.assertEqual(journal.answer(line), "bad")
            self.assertEqual((journal.record(), journal.lines()), (record, LINES))

    def test_every_character(self):
        for code in range(200):
            journal = Journal()
            self.assertEqual(journal.answer(f"a{chr(code)}"), "bad")
            self.assertEqual(journal.record() != "", 32 <= code <= 126 and chr(code) != PERCENT)

    def test_journals_have_their_own_desks(self):
        one, other = Journal(), Journal()
        one.answer("ring a 2 1")
        self.assertEqual((other.answer("size a"), other.lines()), ("unknown a", ["size a"]))
        one.lines().clear()
        self.assertEqual(one.lines(), ["ring a 2 1"])


class ResumeTest(unittest.TestCase):
    def wrong_row(self, text):
        with self.assertRaises(BadJournal) as caught:
            resume(text)
        return caught.exception.row

    def test_cut_off_at_every_place(self):
        _, record = written()
        for size in range(len(record) + 1):
            journal = resume(record[:size])
            pairs = record[:size].count("\n") // 2
            self.assertEqual(journal.lines(), LINES[:pairs])
            self.assertEqual(journal.record(), told_record(LINES[:pairs], ANSWERS))
            self.assertLessEqual(len(journal.record()), size)
            self.assertEqual([journal.answer(line) for line in LINES[pairs:]], ANSWERS[pairs:])
            self.assertEqual(journal.record(), record)

    def test_behind_the_last_newline(self):
        for rest in ("", ">", "> ", "x", "< ok", "> size a", f"> {PERCENT}", "\t\u00e9", "> ring a 2 1"):
            self.assertEqual(resume(rest).record(), "")
            self.assertEqual(resume("> size a\n< unknown a\n" + rest).lines(), ["size a"])
            self.assertEqual(resume("> ring a 2 1\n" + rest).lines(), [])

    def test_a_line_without_an_answer(self):
        journal = resume("> ring a 2 1\n< ok\n> drop a\n")
        self.assertEqual(journal.lines(), ["ring a 2 1"])
        self.assertEqual(journal.answer("size a"), "2")
        for row in ("< ok", "drop a", ">drop a", "", ">", f"> {PERCENT}", "> a\tb", "> \u00e9", "> a\r", " > a"):
            self.assertEqual(self.wrong_row(f"> ring a 2 1\n< ok\n{row}\n"), 2)
            self.assertEqual(self.wrong_row(f"{row}\n"), 0)
        self.assertEqual(resume("> \n").record(), "")
        self.assertEqual(resume("> nothing at all\n").record(), "")

    def test_wrong_rows(self):
        rows = told_record(LINES, ANSWERS).split("\n")[:-1]
        for at, row in enumerate(rows):
            wrong = [row[1:], row[2:], "", " " + row, "x" + row[1:], row[0] + "x" + row[2:], row + PERCENT, row + "\t", row + "\r",
                     ("< " if at % 2 == 0 else "> ") + row[2:], row + "\u00e9"]
            if at % 2 == 1:
                wrong += [row + " ", row + "x", row[:-1], row + row, "< ", "< refused" if row != "< refused" else "< bad"]
            for other in wrong:
                text = "\n".join(rows[:at] + [other] + rows[at + 1:]) + "\n"
                self.assertEqual(self.wrong_row(text), at, (at, other))

    def test_the_first_wrong_row(self):
        self.assertEqual(self.wrong_row("> size a\n< 7\n> x\n< nothing\nwrong\n"), 1)
        self.assertEqual(self.wrong_row("size a\n< 7\n"), 0)
        self.assertEqual(self.wrong_row(f"> size a{PERCENT}\n< 7\n"), 0)
        self.assertEqual(self.wrong_row("> size a\n< unknown a\n> x\n> x\n"), 3)
        self.assertEqual(self.wrong_row("> size a\n< unknown a\n\n"), 2)
        self.assertEqual(self.wrong_row("\n"), 0)
        # A line whose row is right is passed to the desk, though it is missing for the next ones.
        self.assertEqual(self.wrong_row("> ring a 2 1\n< ok\n> size a\n< 3\n"), 3)
        self.assertEqual(self.wrong_row("> size a\n< 2\n> ring a 2 1\n< ok\n"), 1)

    def test_answers_need_their_lines(self):
        _, record = written()
        rows = record.split("\n")
        self.assertEqual(self.wrong_row("\n".join(rows[2:])), 1)
        self.assertEqual(self.wrong_row("\n".join(rows[1:])), 0)

    def test_no_trial_is_open(self):
        journal = resume("> ring a 2 1\n< ok\n")
        with self.assertRaises(OpenTrial):
            journal.keep()
        with journal as trial:
            trial.answer("drop a")
        self.assertEqual(journal.record(), "> ring a 2 1\n< ok\n")


class TrialTest(unittest.TestCase):
    def setUp(self):
        self.journal, self.before = written()

    def check_as_before(self):
        self.assertEqual((self.journal.record(), self.journal.lines()), (self.before, LINES))
        # The desk answers as it did: these lines are taken back, too.
        with self.journal as trial:
            told = [trial.answer(line) for line in ("size a", "size b", "show b", "size c")]
        self.assertEqual(told, ["unknown a", "1", EXAMPLE, "unknown c"])

    def change(self):
        for line in ("ring a 3 1", "ring b 2 1", "ring c 5 2", "drop b"):
            self.assertEqual(self.journal.answer(line), "ok")

    def test_not_kept(self):
        with self.journal as trial:
            self.assertIs(trial, self.journal)
            self.change()
            self.assertEqual(trial.answer("size c"), "5")
            self.assertEqual(len(trial.lines()), len(LINES) + 5)
        self.check_as_before()

    def test_kept(self):
        with self.journal as trial:
            self.change()
            trial.keep()
            self.assertEqual(trial.answer("size c"), "5")
        self.assertEqual(self.journal.lines()[len(LINES):], ["ring a 3 1", "ring b 2 1", "ring c 5 2", "drop b", "size c"])
        self.assertTrue(self.journal.record().startswith(self.before))
        self.assertEqual([self.journal.answer(line) for line in ("size a", "size b", "size c")], ["3", "unknown b", "5"])
        self.assertEqual(resume(self.journal.record()).record(), self.journal.record())

    def test_exceptions(self):
        for is_kept in (False, True):
            with self.assertRaises(Stop):
                with self.journal as trial:
                    self.change()
                    if is_kept:
                        trial.keep()
                    raise Stop
            self.check_as_before()

    def test_exceptions_that_do_not_leave(self):
        with self.journal as trial:
            trial.keep()
            try:
                self.change()
                raise Stop
            except Stop:
                pass
        self.assertEqual(self.journal.answer("size c"), "5")

    def test_leaving_by_return_and_break(self):
        def kept(is_kept):
            for _ in range(2):
                with self.journal as trial:
                    self.change()
                    if is_kept:
                        trial.keep()
                        return trial
                    break
            return None
        self.assertIsNone(kept(False))
        self.check_as_before()
        self.assertIs(kept(True), self.journal)
        self.assertEqual(self.journal.answer("size c"), "5")

    def test_a_trial_within_a_trial(self):
        with self.journal as trial:
            self.change()
            for _ in range(2):
                with self.assertRaises(OpenTrial):
                    with self.journal:
                        self.fail("a second trial was opened")
                with self.assertRaises(OpenTrial):
                    attempt(trial, ["size a"])
                self.assertEqual(trial.answer("size a"), "3")
        self.check_as_before()
        with self.journal as trial:
            self.change()
            trial.keep()
            with self.assertRaises(OpenTrial):
                with trial:
                    pass
        self.assertEqual(self.journal.answer("size a"), "3")

    def test_a_trial_within_a_trial_that_leaves_both(self):
        with self.assertRaises(OpenTrial):
            with self.journal as trial:
                self.change()
                trial.keep()
                with self.journal:
                    pass
        self.check_as_before()

    def test_trials_of_two_journals(self):
        other = Journal()
        with self.journal as one, other as two:
            self.assertEqual((one.answer("size b"), two.answer("size b")), ("1", "unknown b"))
            two.keep()
        self.check_as_before()
        self.assertEqual(other.lines(), ["size b"])

    def test_keep_without_a_trial(self):
        for journal in (Journal(), self.journal):
            with self.assertRaises(OpenTrial):
                journal.keep()
        with self.journal as trial:
            trial.keep()
            trial.keep()
        with self.assertRaises(OpenTrial):
            self.journal.keep()
        # What was kept once does not keep the next trial.
        with self.journal:
            self.change()
        self.check_as_before()

    def test_another_trial_behind_one(self):
        for _ in range(3):
            with self.journal:
                self.change()
            self.check_as_before()
            with self.assertRaises(Stop):
                with self.journal:
                    self.change()
                    raise Stop
        with self.journal as trial:
            self.change()
            trial.keep()
        record = self.journal.record()
        with self.journal:
            self.journal.answer("drop a")
        self.assertEqual(self.journal.record(), record)
        self.assertEqual(self.journal.answer("size a"), "3")

    def test_lines_behind_a_kept_trial_stay(self):
        with self.journal as trial:
            trial.answer("ring x 1 0")
            trial.keep()
        self.journal.answer("ring y 1 0")
        with self.journal as trial:
            trial.answer("ring z 1 0")
        self.assertEqual([self.journal.answer(f"size {name}") for name in "xyz"], ["1", "1", "unknown z"])

    def test_unrecorded_lines_in_a_trial(self):
        with self.journal as trial:
            self.assertEqual([trial.answer(line) for line in UNRECORDED], ["bad"] * len(UNRECORDED))
            self.assertEqual(trial.record(), self.before)


class AttemptTest(unittest.TestCase):
    def test_not_kept(self):
        journal, before = written()
        answers, record = attempt(journal, ["ring a 3 1", "size a", f"size a{PERCENT}"])
        self.assertEqual(answers, ["ok", "3", "bad"])
        self.assertEqual(record, before + "> ring a 3 1\n< ok\n> size a\n< 3\n")
        self.assertEqual((journal.record(), journal.lines()), (before, LINES))
        self.assertEqual(journal.answer("size a"), "unknown a")

    def test_kept(self):
        journal, before = written()
        answers, record = attempt(journal, ["ring a 3 1", "size a"], keep=True)
        self.assertEqual((answers, record), (["ok", "3"], before + "> ring a 3 1\n< ok\n> size a\n< 3\n"))
        self.assertEqual(journal.record(), record)
        self.assertEqual(journal.answer("size a"), "3")
        self.assertEqual(attempt(journal, [], keep=False), ([], record + "> size a\n< 3\n"))

    def test_no_lines(self):
        for keep in (False, True):
            self.assertEqual(attempt(Journal(), [], keep=keep), ([], ""))

    def test_lines_are_not_modified(self):
        lines = ["ring a 3 1"]
        answers, _ = attempt(Journal(), lines)
        answers.append("x")
        self.assertEqual(lines, ["ring a 3 1"])


if __name__ == "__main__":
    unittest.main()
