"""A journal: a desk whose lines and answers are recorded, and trials that can be taken back."""

from wedgespace.desk import Desk
from wedgespace.errors import BadJournal, OpenTrial
from wedgespace.lines import is_plain

LINE_MARK = "> "
ANSWER_MARK = "< "


class Journal:
    """A desk with the record of the lines that it was passed.

    `entries` is the list of the pairs of a line and its answer. `gluings_before` and
    `entries_before` are what the desk and the record had at the beginning of the last trial.
    """

    def __init__(self):
        self.desk = Desk()
        self.entries = []
        self.gluings_before = {}
        self.entries_before = []
        self.is_open = False
        self.is_kept = False

    def answer(self, line):
        """Return the answer to a line, and record both."""
        if not is_plain(line):
            return "bad"
        told = self.desk.answer(line)
        self.entries.append((line, told))
        return told

    def record(self):
        """Return the record."""
        rows = [f"{LINE_MARK}{line}\n{ANSWER_MARK}{told}\n" for line, told in self.entries]
        return "".join(rows)

    def lines(self):
        """Return the list of the recorded lines."""
        return [line for line, _ in self.entries]

    def keep(self):
        """Keep what is answered in the open trial."""
        if not self.is_open:
            raise OpenTrial("no trial is open")
        self.is_kept = True

    def __enter__(self):
        if self.is_open:
            raise OpenTrial("a trial of the journal is open")
        self.is_open = True
        self.is_kept = False
        self.gluings_before = dict(self.desk.gluings)
        self.entries_before = list(self.entries)
        return self

    # Nothing is returned here, so that an exception that leaves the statement goes on.
    def __exit__(self, kind, value, trace):
        desk = self.desk
        if kind is not None or not self.is_kept:
            desk.gluings = self.gluings_before
            self.entries = self.entries_before
        self.is_open = False


def attempt(journal, lines, *, keep=False):
    """Answer lines in a trial, and return the list of the answers and the record at its end."""
    with journal as trial:
        told = [trial.answer(line) for line in lines]
        if keep:
            trial.keep()
        record = trial.record()
    return (told, record)


def resume(text):
    """Return a journal that goes on from a record, which may have been cut off."""
    journal = Journal()
    rows = text.split("\n")[:-1]
    for at in range(0, len(rows), 2):
        line = rows[at][len(LINE_MARK):]
        if not rows[at].startswith(LINE_MARK) or not is_plain(line):
            raise BadJournal(at)
        if at + 1 < len(rows):
            told = journal.answer(line)
            if rows[at + 1] != f"{ANSWER_MARK}{told}":
                raise BadJournal(at + 1)
    return journal
