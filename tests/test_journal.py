"""The journal: points [264] to [268]."""

import random
import unittest

from plinth.desk import Desk
from plinth.errors import BadJournal, OpenTrial
from plinth.journal import Journal, attempt, resume
from tests.test_desk import LINES, contents, some_lines
from tests.test_words import NO_CHARACTERS

SHORT = ["numbers a 5 6", "show a", "", "text b  x ", "show c", "A ~"]
SHORT_RECORD = (
    "> numbers a 5 6\n< ok\n> show a\n< 5 6\n> \n< bad\n> text b  x \n< ok\n> show c\n< unknown c\n> A ~\n< bad\n"
)
NAMES = ["a", "b", "c", "five", "program", "echo", "made", "new"]


def filled(lines=SHORT):
    journal = Journal()
    for line in lines:
        journal.answer(line)
    return journal


def seen(journal):
    """All that can be seen of a journal, without a change."""
    return journal.record(), journal.lines(), [journal.content(name) for name in NAMES]


def later(journal):
    """What it answers to lines that show all parts of its desk."""
    return [journal.answer(line) for line in ("audit", "needs made", "dispute right wrong", "take x entry",
                                              "build 100")]


class AnswerTest(unittest.TestCase):
    def test_new(self):
        self.assertEqual(("", [], [None] * len(NAMES)), seen(Journal()))

    def test_answers(self):
        journal = Journal()
        self.assertEqual(["ok", "5 6", "bad", "ok", "unknown c", "bad"], [journal.answer(line) for line in SHORT])
        self.assertEqual(SHORT_RECORD, journal.record())
        self.assertEqual(SHORT, journal.lines())
        self.assertEqual(([5, 6], [32, 120, 32], None),
                         (journal.content("a"), journal.content("b"), journal.content("c")))

    def test_beside_a_desk(self):
        source = random.Random(264)
        for _ in range(20):
            lines = LINES + some_lines(source, 30)
            journal, desk = Journal(), Desk()
            answers = desk.answers(lines)
            self.assertEqual(answers, [journal.answer(line) for line in lines])
            self.assertEqual(lines, journal.lines())
            self.assertEqual("".join(f"> {line}\n< {answer}\n" for line, answer in zip(lines, answers)),
                             journal.record())
            self.assertEqual([content for _, content in contents(desk)],
                             [journal.content(name) for name in desk.names()])

    def test_lines_that_cannot_be_recorded(self):
        journal = filled()
        for sign in NO_CHARACTERS + ["\n"]:
            for line in (sign, f"numbers a{sign}", f"numbers a 7 {sign}", f"text a {sign}", f"{sign}numbers a",
                         "text a b" + sign):
                self.assertEqual("bad", journal.answer(line))
        self.assertEqual(seen(filled()), seen(journal))

    def test_copies(self):
        journal = filled()
        journal.lines().clear()
        journal.content("a").append(7)
        self.assertEqual(seen(filled()), seen(journal))


class ResumeTest(unittest.TestCase):
    def bad(self, row, text):
        with self.assertRaises(BadJournal, msg=text) as caught:
            resume(text)
        self.assertEqual(row, caught.exception.row, text)

    def test_whole_records(self):
        self.assertEqual(seen(Journal()), seen(resume("")))
        self.assertEqual(seen(filled()), seen(resume(SHORT_RECORD)))
        source = random.Random(266)
        for _ in range(20):
            journal = filled(LINES + some_lines(source, 20))
            resumed = resume(journal.record())
            self.assertEqual(seen(journal), seen(resumed))
            self.assertEqual(later(journal), later(resumed))

    def test_cut_off_at_every_place(self):
        for lines in (SHORT, LINES + ["build 100", "show made", "damage entry 0 5", "audit", "spoil wrong 2 9",
                                      "dispute right wrong"]):
            answered = filled(lines)
            whole = answered.record()
            entries = [len(filled(lines[:many]).record()) for many in range(len(lines) + 1)]
            for size in range(len(whole) + 1):
                many = sum(length <= size for length in entries) - 1
                journal = resume(whole[:size])
                self.assertEqual(whole[:entries[many]], journal.record())
                self.assertEqual(lines[:many], journal.lines())
                if size % 7 == 0:
                    for line in lines[many:]:
                        journal.answer(line)
                    self.assertEqual(seen(answered), seen(journal))
                    self.assertEqual(later(filled(lines)), later(journal))

    def test_a_row_without_its_newline_is_ignored(self):
        for row in ("x", ">", "> ", "<", "\t", "> show a", "< ok", "\u00e4\u0025"):
            self.assertEqual(seen(filled()), seen(resume(SHORT_RECORD + row)))
            self.assertEqual(seen(filled()), seen(resume(SHORT_RECORD + "> numbers a 7\n" + row)))
            self.assertEqual(seen(Journal()), seen(resume(row)))

    def test_a_line_whose_answer_is_missing(self):
        for line in ("numbers a 7", "show a", "", " ", "text a"):
            self.assertEqual(seen(filled()), seen(resume(SHORT_RECORD + f"> {line}\n")))
        for row in ("numbers a 7", ">numbers a", "< ok", "", ">", "> \t", "> a\u0025", " > a"):
            self.bad(12, SHORT_RECORD + row + "\n")
            self.bad(0, row + "\n")

    def test_rows_that_cannot_stand_in_a_record(self):
        rows = SHORT_RECORD.split("\n")[:-1]
        for at in range(len(rows)):
            others = ["", ">", "<", "x", rows[at][1:], " " + rows[at], ">" + rows[at], "<" + rows[at],
                      rows[at][0] + rows[at][2:]]
            others.append(("< " if at % 2 == 0 else "> ") + rows[at][2:])
            if at % 2 == 0:
                others += [rows[at] + sign for sign in NO_CHARACTERS] + ["> \u0025"]
            else:
                others += [rows[at] + " ", rows[at] + "x", "< ", "<  " + rows[at][2:], "< refused", rows[at] + "\t"]
            for other in others:
                self.bad(at, "\n".join(rows[:at] + [other] + rows[at + 1:]) + "\n")
                self.bad(at, "\n".join(rows[:at] + [other]) + "\n")

    def test_another_line_has_another_answer(self):
        self.bad(1, "> numbers a x\n< ok\n")
        self.bad(3, "> numbers a 5\n< ok\n> show a\n< 6\n")
        self.bad(1, "> show a\n< 5\n> x\n< y\n")
        self.bad(2, "> numbers a 5\n< ok\nshow a\n< 6\n")

    def test_rows_left_out(self):
        rows = SHORT_RECORD.split("\n")[:-1]
        for at in range(len(rows) - 1):
            self.bad(at, "\n".join(rows[:at] + rows[at + 1:]) + "\n")
        self.bad(0, "\n" + SHORT_RECORD)
        self.bad(12, SHORT_RECORD + "\n")


class TrialTest(unittest.TestCase):
    LINES = ["numbers a 7", "numbers new 1", "rule c d", "put x plain b a", "", "claim e a a 5", "show a"]

    def test_what_is_not_kept(self):
        for lines in (SHORT, LINES):
            journal = filled(lines)
            with journal as trial:
                self.assertIs(journal, trial)
                self.assertEqual(seen(filled(lines)), seen(trial))
                for line in self.LINES:
                    trial.answer(line)
                self.assertEqual(seen(filled(lines + self.LINES)), seen(journal))
            self.assertEqual(seen(filled(lines)), seen(journal))
            self.assertEqual(later(filled(lines)), later(journal))

    def test_all_parts_of_the_desk_are_taken_back(self):
        changes = ["numbers five 6", "numbers a 1", "text program 7", "run echo echo five 9", "rule made copy",
                   "build 100", "put entry short none none", "swap entry other", "copy entry other", "damage entry 0 9",
                   "take five entry",
                   "make other plain program other 999", "claim right none none 9", "spoil wrong 2 9",
                   "spoil right 0 9"]
        for change in changes:
            journal = filled(LINES)
            with journal:
                self.assertNotIn(journal.answer(change).split(" ")[0], ["bad", "unknown", "refused", "not"])
                self.assertEqual(later(filled(LINES + [change])), later(journal))
            self.assertEqual(seen(filled(LINES)), seen(journal))
            self.assertEqual(later(filled(LINES)), later(journal), change)

    def test_what_is_kept(self):
        for before, behind in ((0, 7), (3, 4), (7, 0)):
            journal = filled()
            with journal as trial:
                for line in self.LINES[:before]:
                    journal.answer(line)
                self.assertIsNone(trial.keep())
                for line in self.LINES[before:]:
                    journal.answer(line)
                if behind == 0:
                    trial.keep()
            self.assertEqual(seen(filled(SHORT + self.LINES)), seen(journal))
            self.assertEqual(later(filled(SHORT + self.LINES)), later(journal))

    def test_exceptions_leave_the_statement(self):
        for keeps in (False, True):
            journal = filled()
            with self.assertRaises(ZeroDivisionError):
                with journal as trial:
                    trial.answer("numbers a 7")
                    if keeps:
                        trial.keep()
                    raise ZeroDivisionError
            self.assertEqual(seen(filled()), seen(journal))
            with self.assertRaises(OpenTrial):
                journal.keep()
        # An exception that does not leave the statement takes nothing back.
        journal = filled()
        with journal:
            journal.answer("numbers a 7")
            journal.keep()
            try:
                raise ZeroDivisionError
            except ZeroDivisionError:
                pass
        self.assertEqual([7], journal.content("a"))

    def test_one_trial_after_the_other(self):
        journal = filled()
        with journal:
            journal.answer("numbers a 7")
            journal.keep()
        # What was kept once is not kept in the next trial.
        with journal:
            journal.answer("numbers a 8")
        self.assertEqual([7], journal.content("a"))
        with journal:
            journal.answer("numbers a 9")
            journal.keep()
        self.assertEqual([9], journal.content("a"))
        self.assertEqual(SHORT + ["numbers a 7", "numbers a 9"], journal.lines())

    def test_open_trials(self):
        journal = filled()
        with journal:
            journal.answer("numbers a 7")
            with self.assertRaises(OpenTrial):
                with journal:
                    self.fail("the inner trial was opened")
            with self.assertRaises(OpenTrial):
                attempt(journal, ["numbers a 8"], keep=True)
            self.assertEqual([7], journal.content("a"))
            journal.answer("numbers b 8")
            journal.keep()
        self.assertEqual(seen(filled(SHORT + ["numbers a 7", "numbers b 8"])), seen(journal))
        journal = filled()
        with self.assertRaises(OpenTrial):
            with journal:
                journal.answer("numbers a 7")
                journal.keep()
                with journal:
                    self.fail("the inner trial was opened")
        self.assertEqual(seen(filled()), seen(journal))
        # Another journal may have its own trial.
        other = filled()
        with journal, other:
            other.answer("numbers a 7")
            other.keep()
        self.assertEqual(([5, 6], [7]), (journal.content("a"), other.content("a")))

    def test_keep_outside_of_a_trial(self):
        journal = filled()
        for _ in range(2):
            with self.assertRaises(OpenTrial):
                journal.keep()
            with journal:
                journal.keep()
        self.assertEqual(seen(filled()), seen(journal))

    def test_resumed_journals(self):
        journal = resume(SHORT_RECORD + "> show a\n")
        with self.assertRaises(OpenTrial):
            journal.keep()
        with journal:
            journal.answer("numbers a 7")
        self.assertEqual(seen(filled()), seen(journal))


class AttemptTest(unittest.TestCase):
    def test_attempt(self):
        journal = filled()
        lines = ["numbers a 7", "show a", "x\n", ""]
        record = SHORT_RECORD + "> numbers a 7\n< ok\n> show a\n< 7\n> \n< bad\n"
        self.assertEqual((["ok", "7", "bad", "bad"], record), attempt(journal, lines))
        self.assertEqual(seen(filled()), seen(journal))
        self.assertEqual((["ok", "7", "bad", "bad"], record), attempt(journal, lines, keep=False))
        self.assertEqual(seen(filled()), seen(journal))
        self.assertEqual((["ok", "7", "bad", "bad"], record), attempt(journal, lines, keep=True))
        self.assertEqual(seen(filled(SHORT + lines[:2] + [""])), seen(journal))
        self.assertEqual(([], record), attempt(journal, []))

    def test_an_open_trial(self):
        journal = filled()
        with journal:
            for keep in (False, True):
                with self.assertRaises(OpenTrial):
                    attempt(journal, ["numbers a 7"], keep=keep)
        self.assertEqual(seen(filled()), seen(journal))


if __name__ == "__main__":
    unittest.main()
