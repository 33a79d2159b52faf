"""The shelf: points [166] to [168]."""

import unittest

from plinth.errors import BadFuel, BadKind, BadName, BadTrap, NoEntry, NotPlantable, NotText, OutOfRange
from plinth.machine import run
from plinth.shelf import Shelf
from plinth.traps import plant
from plinth.words import is_name
from tests.helpers import HUGE, codes, counter

KINDS = ["digits", "short", "plain", "turned"]
# Copies its input up to the first negative integer.
COPY = [0, 44, 0, 1, 1, 34, 0, 2, 2, 35, 0, 3, 3, 60, 0, 4, 4, 63, 5, 9, 5, 46, 0, 0]
PROGRAM = [0, 32, 0, 200, 200, 41, 0, 201]
BAD_NAMES = ["", "abcdefghijklm", "A", "a1", "a b", " a", "a\n", "a-b", "\u00e4", "_"]
NO_TEXTS = ["a\u0025", "\t", "\r", "\u00e4", "\x7f", "\x00"]


def contents(shelf):
    """All that a shelf has, in its order."""
    return [(name, shelf.kind(name), shelf.text(name), shelf.binary(name)) for name in shelf.names()]


def filled():
    shelf = Shelf()
    shelf.put("copy", "short", "a b", COPY)
    shelf.put("program", "plain", "", PROGRAM)
    shelf.put("empty", "digits", "1 2", [])
    return shelf


FILLED = [("copy", "short", "a b", COPY), ("program", "plain", "", PROGRAM), ("empty", "digits", "1 2", [])]


class MethodsTest(unittest.TestCase):
    def test_new(self):
        self.assertEqual([], Shelf().names())
        self.assertEqual([], Shelf().names())

    def test_put(self):
        shelf = filled()
        self.assertEqual(FILLED, contents(shelf))
        self.assertIsNone(shelf.put("program", "turned", "xyz", [7]))
        expected = [FILLED[0], ("program", "turned", "xyz", [7]), FILLED[2]]
        self.assertEqual(expected, contents(shelf))
        self.assertIsNone(shelf.put("abcdefghijkl", "digits", "~\n", [HUGE, -HUGE, 1]))
        self.assertEqual(expected + [("abcdefghijkl", "digits", "~\n", [HUGE, -HUGE, 1])], contents(shelf))
        for kind in KINDS:
            shelf.put("copy", kind, "", [])
            self.assertEqual(kind, shelf.kind("copy"))
        self.assertEqual(["copy", "program", "empty", "abcdefghijkl"], shelf.names())

    def test_build(self):
        shelf = filled()
        self.assertIs(True, shelf.build("result", "plain", "xy", by="copy"))
        self.assertEqual(FILLED + [("result", "plain", "xy", codes("xy"))], contents(shelf))
        self.assertIs(True, shelf.build("program", "digits", "7", by="copy"))
        self.assertIs(True, shelf.build("copy", "turned", "9", by="copy"))
        expected = [("copy", "turned", "9", codes("9")), ("program", "digits", "7", codes("7")), FILLED[2],
                    ("result", "plain", "xy", codes("xy"))]
        self.assertEqual(expected, contents(shelf))
        self.assertIs(True, shelf.build("copy", "short", "", by="empty", fuel=0))
        self.assertEqual([("copy", "short", "", [])] + expected[1:], contents(shelf))

    def test_build_with_fuel_that_is_too_small_and_then_enough(self):
        shelf = filled()
        steps = run(COPY, codes("xyz"), fuel=999)[2]
        self.assertIs(False, shelf.build("result", "plain", "xyz", by="copy", fuel=steps - 1))
        self.assertIs(False, shelf.build("copy", "plain", "xyz", by="copy", fuel=0))
        self.assertEqual(FILLED, contents(shelf))
        self.assertIs(True, shelf.build("result", "plain", "xyz", by="copy", fuel=steps))
        self.assertEqual(FILLED + [("result", "plain", "xyz", codes("xyz"))], contents(shelf))

    def test_the_default_fuel(self):
        shelf = Shelf()
        for steps, ends in ((100000, True), (100001, False)):
            shelf.put("counter", "digits", "", counter(steps))
            self.assertIs(ends, shelf.build("result", "digits", "", by="counter"))

    def test_swap(self):
        shelf = filled()
        self.assertIsNone(shelf.swap("copy", "program"))
        expected = [("copy", "short", "a b", PROGRAM), ("program", "plain", "", COPY), FILLED[2]]
        self.assertEqual(expected, contents(shelf))
        self.assertIsNone(shelf.swap("copy", "copy"))
        self.assertEqual(expected, contents(shelf))
        shelf.swap("program", "copy")
        self.assertEqual(FILLED, contents(shelf))

    def test_clone(self):
        shelf = filled()
        self.assertIsNone(shelf.clone("copy", "program"))
        expected = [FILLED[0], ("program", "plain", "", COPY), FILLED[2]]
        self.assertEqual(expected, contents(shelf))
        self.assertIsNone(shelf.clone("copy", "copy"))
        self.assertEqual(expected, contents(shelf))
        shelf.damage("copy", 0, 5)
        self.assertEqual([("copy", "short", "a b", [5] + COPY[1:])] + expected[1:], contents(shelf))

    def test_damage(self):
        shelf = filled()
        self.assertIsNone(shelf.damage("program", 0, 9))
        self.assertEqual([9] + PROGRAM[1:], shelf.binary("program"))
        self.assertIsNone(shelf.damage("program", 7, -HUGE))
        self.assertEqual([9] + PROGRAM[1:7] + [-HUGE], shelf.binary("program"))
        self.assertIsNone(shelf.damage("program", 8, 4))
        self.assertEqual([9] + PROGRAM[1:7] + [-HUGE, 4], shelf.binary("program"))
        self.assertIsNone(shelf.damage("empty", 0, 3))
        self.assertIsNone(shelf.damage("copy", 3, COPY[3]))
        self.assertEqual([FILLED[0], ("program", "plain", "", [9] + PROGRAM[1:7] + [-HUGE, 4]),
                          ("empty", "digits", "1 2", [3])], contents(shelf))

    def test_trap(self):
        shelf = filled()
        self.assertIsNone(shelf.trap("program", [1, 2], [3, 4, 5, 6]))
        self.assertEqual([FILLED[0], ("program", "plain", "", plant(PROGRAM, [1, 2], [3, 4, 5, 6])), FILLED[2]],
                         contents(shelf))


class CopiesTest(unittest.TestCase):
    def test_lists_that_were_given(self):
        shelf, binary, lure, extra = Shelf(), list(PROGRAM), [1], [1, 2, 3, 4]
        shelf.put("a", "plain", "", binary)
        binary[0] = 9
        self.assertEqual(PROGRAM, shelf.binary("a"))
        shelf.trap("a", lure, extra)
        lure[0], extra[0] = 9, 9
        self.assertEqual(plant(PROGRAM, [1], [1, 2, 3, 4]), shelf.binary("a"))

    def test_lists_that_were_returned(self):
        shelf = filled()
        shelf.build("result", "plain", "xyz", by="copy")
        shelf.clone("copy", "program")
        before = contents(shelf)
        shelf.names().clear()
        for name in shelf.names():
            shelf.binary(name).append(5)
            shelf.binary(name)[:1] = []
        self.assertEqual(before, contents(shelf))


class ErrorsTest(unittest.TestCase):
    def raises(self, kind, call, name=None):
        """The error, and nothing has changed."""
        shelf = filled()
        with self.assertRaises(kind) as caught:
            call(shelf)
        self.assertEqual(FILLED, contents(shelf))
        if name is not None:
            self.assertEqual(name, caught.exception.name)

    def test_names(self):
        for name in BAD_NAMES:
            self.assertIs(False, is_name(name))
            self.raises(BadName, lambda shelf: shelf.put(name, "plain", "", []))
            self.raises(BadName, lambda shelf: shelf.build(name, "plain", "", by="copy"))

    def test_kinds(self):
        for kind in ("", "twig", "Plain", "plain ", "seed", "first"):
            self.raises(BadKind, lambda shelf: shelf.put("copy", kind, "", []))
            self.raises(BadKind, lambda shelf: shelf.build("copy", kind, "", by="copy"))

    def test_texts(self):
        for text in NO_TEXTS:
            self.raises(NotText, lambda shelf: shelf.put("copy", "plain", text, []))
            self.raises(NotText, lambda shelf: shelf.build("copy", "plain", text, by="copy"))

    def test_fuel(self):
        for fuel in (-1, -HUGE):
            self.raises(BadFuel, lambda shelf: shelf.build("copy", "plain", "", by="copy", fuel=fuel))

    def test_no_entry(self):
        for name in ["x", "copi"] + BAD_NAMES:
            self.raises(NoEntry, lambda shelf: shelf.build("copy", "plain", "", by=name), name)
            self.raises(NoEntry, lambda shelf: shelf.swap("copy", name), name)
            self.raises(NoEntry, lambda shelf: shelf.swap(name, "copy"), name)
            self.raises(NoEntry, lambda shelf: shelf.swap(name, "y"), name)
            self.raises(NoEntry, lambda shelf: shelf.clone("copy", name), name)
            self.raises(NoEntry, lambda shelf: shelf.clone(name, "copy"), name)
            self.raises(NoEntry, lambda shelf: shelf.clone(name, "y"), name)
            self.raises(NoEntry, lambda shelf: shelf.damage(name, 0, 0), name)
            self.raises(NoEntry, lambda shelf: shelf.trap(name, [1], []), name)
            for part in (Shelf.kind, Shelf.text, Shelf.binary):
                self.raises(NoEntry, lambda shelf: part(shelf, name), name)

    def test_cells(self):
        for name, size in (("copy", 24), ("program", 8), ("empty", 0)):
            for at in (-1, -size, size + 1, HUGE, -HUGE):
                if at != 0:
                    self.raises(OutOfRange, lambda shelf: shelf.damage(name, at, 0))

    def test_traps(self):
        for lure, extra in (([], []), ([127], []), ([1], [1])):
            self.raises(BadTrap, lambda shelf: shelf.trap("program", lure, extra))
        self.raises(NotPlantable, lambda shelf: shelf.trap("copy", [1], []))
        self.raises(NotPlantable, lambda shelf: shelf.trap("empty", [1], []))

    def test_each_error_before_the_next_one(self):
        for call in (lambda shelf: shelf.put("A", "twig", "", []),
                     lambda shelf: shelf.build("A", "twig", "", by="copy")):
            self.raises(BadName, call)
        for call in (lambda shelf: shelf.put("a", "twig", "\t", []),
                     lambda shelf: shelf.build("a", "twig", "\t", by="copy")):
            self.raises(BadKind, call)
        self.raises(NotText, lambda shelf: shelf.build("a", "plain", "\t", by="copy", fuel=-1))
        self.raises(BadFuel, lambda shelf: shelf.build("a", "plain", "", by="x", fuel=-1))
        self.raises(NoEntry, lambda shelf: shelf.damage("x", -1, 0), "x")
        self.raises(NoEntry, lambda shelf: shelf.trap("x", [], []), "x")
        self.raises(BadTrap, lambda shelf: shelf.trap("copy", [], []))
        self.raises(BadName, lambda shelf: shelf.build("A", "plain", "", by="x", fuel=-1))
        self.raises(BadName, lambda shelf: shelf.put("A", "plain", "\t", []))
        self.raises(BadKind, lambda shelf: shelf.build("a", "twig", "", by="x", fuel=-1))
        self.raises(NotText, lambda shelf: shelf.build("a", "plain", "\t", by="x"))


if __name__ == "__main__":
    unittest.main()
