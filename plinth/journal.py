"""The journal: a desk whose lines and answers are recorded."""

from plinth.desk import Desk
from plinth.errors import BadJournal, OpenTrial
from plinth.words import is_line


class Journal:
    """A desk of its own, and the lines that it was given, with their answers."""

    def __init__(self):
        self._desk = Desk()
        self._entries = []
        # While a trial is open: what was here at its beginning, and whether
        # what is here now is to be kept (True, or None).
        self._desk_before = None
        self._entries_before = None
        self._keeps = None

    def answer(self, line):
        """Answers a line and records it, if it can be recorded."""
        if not is_line(line):
            return "bad"
        answer = self._desk.answer(line)
        self._entries.append((line, answer))
        return answer

    def record(self):
        """Returns the record, a text."""
        return "".join([f"> {line}\n< {answer}\n" for line, answer in self._entries])

    def lines(self):
        """Returns the list of the recorded lines."""
        return [line for line, _ in self._entries]

    def content(self, name):
        """Returns a copy of the content of an item, or None if there is none."""
        return self._desk.content(name)

    def keep(self):
        """Keeps what is done in the open trial."""
        if self._desk_before is None:
            raise OpenTrial("no trial is open")
        self._keeps = True

    def __enter__(self):
        if self._desk_before is not None:
            raise OpenTrial("a trial is open already")
        self._desk_before = self._desk
        self._entries_before = self._entries
        self._desk = self._desk.copied()
        self._entries = list(self._entries)
        return self

    def __exit__(self, kind, value, trace):
        if kind is not None or self._keeps is None:
            self._desk = self._desk_before
            self._entries = self._entries_before
        self._desk_before = None
        self._entries_before = None
        self._keeps = None


def attempt(journal, lines, *, keep=False):
    """Answers lines in a trial, and returns the answers and the record."""
    with journal:
        answers = [journal.answer(line) for line in lines]
        if keep:
            journal.keep()
        return (answers, journal.record())


def resume(text):
    """Returns a journal that goes on from a record, which may have been cut off."""
    journal = Journal()
    # The line that waits for its answer.
    line = None
    # Behind the last newline there is only a row that was cut off.
    for at, row in enumerate(text.split("\n")[:-1]):
        if line is None:
            if not row.startswith("> ") or not is_line(row):
                raise BadJournal(at)
            line = row[2:]
        elif row != f"< {journal.answer(line)}":
            raise BadJournal(at)
        else:
            line = None
    return journal
