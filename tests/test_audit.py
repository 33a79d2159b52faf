"""The audit: points [166] and [169] to [171]."""

import random
import unittest

from plinth.audit import audit, due, first_difference, rebuild
from plinth.build import Tower
from plinth.digits import read_digits
from plinth.errors import BadFuel, BadKind, BadTrap, NotPlantable, NotText
from plinth.machine import run
from plinth.meaning import mean
from plinth.reading import read
from plinth.rungs import rung_kind, rung_names, rung_text
from plinth.seed import seed_image
from plinth.shelf import Shelf
from plinth.short import translate_short
from plinth.traps import plant
from plinth.translate import translate
from tests.helpers import HUGE, codes

TEXTS = ["", "2 a+.", "7:x>", "'7 3 4>", ":F1+.;5F", "12 13 007x"]
TREES = ["", "2 3+.", ":F1+.;5F7F", ",{\".,\"0<0~}", "{,\"0<[_0|.1]}", "1[2.|3.]0[2.|3.]"]


def turned(text):
    return translate(text, first=-1, by=-1)


DEFINITIONS = {"digits": read_digits, "short": translate_short, "plain": translate, "turned": turned}
# The kind of the texts that a binary of the tower translates.
NEXT = {"first": "short", "second": "plain", "plain": "plain", "turned": "turned"}


def complete_tower():
    tower = Tower()
    assert tower.finish() is True
    return tower


def right_shelf():
    """A shelf whose binaries are all due."""
    shelf = Shelf()
    for at, text in enumerate(TEXTS):
        for kind in DEFINITIONS:
            shelf.put("abcdefghij"[at] + kind, kind, text, DEFINITIONS[kind](codes(text)))
    return shelf


class Recording:
    """Stands for a tower, and keeps what it was asked."""

    def __init__(self):
        self.asked = []

    def serve(self, kind, numbers, *, fuel=None):
        self.asked.append((kind, numbers, fuel))
        return (True, [0], 1)


class DueTest(unittest.TestCase):
    def test_due(self):
        for text in TEXTS + [rung_text(name) for name in rung_names()]:
            for kind, definition in DEFINITIONS.items():
                self.assertEqual(definition(codes(text)), due(kind, text))
        self.assertEqual([1, 23], due("digits", "1 23"))
        self.assertEqual([0, 35, 5, 1], due("short", "5#"))
        self.assertEqual([0, 32, 0, 200, 200, 97, 0, 201, 201, 41, 0, 202], due("plain", "a"))
        self.assertEqual([0, 32, 0, -1, -1, 97, 0, -2, -2, 41, 0, -3], due("turned", "a"))

    def test_errors(self):
        for kind in ("", "twig", "Digits", "first"):
            for text in ("", "\t"):
                with self.assertRaises(BadKind):
                    due(kind, text)
        for kind in DEFINITIONS:
            for text in ("\t", "a\u0025", "\u00e4"):
                with self.assertRaises(NotText):
                    due(kind, text)


class FirstDifferenceTest(unittest.TestCase):
    def test_first_difference(self):
        for one, other, place in (([], [], None), ([1], [1], None), ([1, 2], [1, 2], None), ([1], [2], 0), ([], [1], 0),
                                  ([1, 2, 3], [1, 2, 4], 2), ([1, 2, 3], [1, 4, 4], 1), ([1, 2], [1, 2, 0], 2),
                                  ([5, 2], [1, 2, 0], 0), ([HUGE], [HUGE + 1], 0), ([HUGE], [HUGE], None)):
            self.assertEqual(place, first_difference(one, other))
            self.assertEqual(place, first_difference(other, one))


class AuditTest(unittest.TestCase):
    def test_an_empty_shelf(self):
        self.assertEqual([], audit(Shelf()))
        self.assertEqual([], rebuild(Shelf(), complete_tower()))

    def test_nothing_differs(self):
        self.assertEqual([], audit(right_shelf()))
        self.assertEqual([], rebuild(right_shelf(), complete_tower()))

    def test_places(self):
        tower = complete_tower()
        for kind, definition in DEFINITIONS.items():
            text = "12 5#." * 3
            binary = definition(codes(text))
            last = len(binary) - 1
            for changed, place in ((binary, None), ([binary[0] + 1] + binary[1:], 0), (binary[:-1] + [HUGE], last),
                                   (binary[:-1], last), (binary + [0], last + 1), ([], 0), ([7] + binary, 0),
                                   (binary[:2] + [-5] + binary[3:-1], 2)):
                shelf = Shelf()
                shelf.put("a", kind, text, changed)
                expected = [] if place is None else [("a", place)]
                self.assertEqual(expected, audit(shelf))
                self.assertEqual(expected, rebuild(shelf, tower))

    def test_the_order(self):
        shelf = Shelf()
        for name in ("zebra", "ape", "mouse", "bee"):
            shelf.put(name, "digits", "1 2 3", [1, 2, 3])
        shelf.damage("bee", 3, 4)
        shelf.damage("ape", 2, 4)
        shelf.damage("zebra", 0, 4)
        self.assertEqual([("zebra", 0), ("ape", 2), ("bee", 3)], audit(shelf))
        self.assertEqual([("zebra", 0), ("ape", 2), ("bee", 3)], rebuild(shelf, complete_tower()))
        shelf.put("ape", "digits", "1 2 3", [1, 3])
        shelf.put("zebra", "digits", "1 2 3", [1, 2, 3])
        self.assertEqual([("ape", 1), ("bee", 3)], audit(shelf))

    def test_the_shelf_stays_as_it_is(self):
        shelf = right_shelf()
        before = [(name, shelf.kind(name), shelf.text(name), shelf.binary(name)) for name in shelf.names()]
        tower = complete_tower()
        audit(shelf)
        rebuild(shelf, tower)
        self.assertEqual(before, [(name, shelf.kind(name), shelf.text(name),
                                   shelf.binary(name)) for name in shelf.names()])


class RebuildTest(unittest.TestCase):
    def test_fuel_at_which_no_run_ends(self):
        tower = complete_tower()
        self.assertEqual([(name, 0) for name in right_shelf().names() if right_shelf().binary(name)],
                         rebuild(right_shelf(), tower, fuel=0))
        # The output so far counts.
        shelf = Shelf()
        shelf.put("a", "digits", "1 22 3", [1, 22, 3])
        shelf.put("b", "digits", "1 22 3", [1, 22])
        shelf.put("c", "digits", "4 5", [4, 5])
        seed = seed_image()
        fuel = [n for n in range(400) if run(seed, codes("1 22 3"), fuel=n)[1] == [1, 22]][0]
        self.assertEqual([("a", 2)], rebuild(shelf, tower, fuel=fuel))
        fuel = run(seed, codes("1 22 3"), fuel=999)[2]
        self.assertEqual([("b", 2)], rebuild(shelf, tower, fuel=fuel))

    def test_what_the_tower_is_asked(self):
        shelf = Shelf()
        for kind in DEFINITIONS:
            shelf.put(kind, kind, "5" + kind, [])
        asked = [(kind, codes("5" + kind)) for kind in DEFINITIONS]
        recording = Recording()
        self.assertEqual([(kind, 0) for kind in DEFINITIONS], rebuild(shelf, recording))
        self.assertEqual([part + (100000,) for part in asked], recording.asked)
        recording = Recording()
        rebuild(shelf, recording, fuel=7)
        self.assertEqual([part + (7,) for part in asked], recording.asked)

    def test_bad_fuel(self):
        for shelf in (Shelf(), right_shelf()):
            for fuel in (-1, -HUGE):
                with self.assertRaises(BadFuel):
                    rebuild(shelf, complete_tower(), fuel=fuel)

    def test_it_uses_the_tower(self):
        tower = Tower(texts=(("plain", "5."), ("turned", "6.7.")))
        self.assertTrue(tower.finish())
        shelf = Shelf()
        shelf.put("a", "plain", "x", [5])
        shelf.put("b", "turned", "x", [6, 7, 8])
        shelf.put("c", "short", "5#", due("short", "5#"))
        self.assertEqual([("b", 2)], rebuild(shelf, tower))
        self.assertEqual([("a", 0), ("b", 0)], audit(shelf))

    def test_beside_audit(self):
        source = random.Random(170)
        tower = complete_tower()
        for _ in range(20):
            shelf = damaged_shelf(source)
            self.assertEqual(audit(shelf), rebuild(shelf, tower))


def damaged_shelf(source):
    """A shelf with compilers and programs, after some deeds."""
    shelf = Shelf()
    shelf.put("seed", "digits", "", seed_image())
    shelf.build("first", "digits", rung_text("first"), by="seed")
    shelf.build("second", "short", rung_text("second"), by="first")
    for name in ("plain", "turned"):
        shelf.build(name, "plain", rung_text(name), by="second")
        shelf.build(name + "two", "turned", rung_text(name), by="turned" if name == "turned" else "plain")
    for at, text in enumerate(TREES):
        shelf.build("p" + "abcdefgh"[at], "plain", text, by="plain")
        shelf.build("t" + "abcdefgh"[at], "turned", text, by="turned")
    for _ in range(source.randrange(6)):
        do_deed(shelf, source)
    return shelf


def do_deed(shelf, source):
    one, other = source.choice(shelf.names()), source.choice(shelf.names())
    deed = source.choice(["swap", "clone", "damage", "trap", "build", "put"])
    if deed == "swap":
        shelf.swap(one, other)
    elif deed == "clone":
        shelf.clone(one, other)
    elif deed == "damage":
        shelf.damage(one, source.randrange(len(shelf.binary(one)) + 1), source.choice([0, 5, 41, 999]))
    elif deed == "build":
        shelf.build(one, shelf.kind(one), shelf.text(one), by=other)
    elif deed == "put":
        shelf.put(one, shelf.kind(one), shelf.text(one), shelf.binary(other))
    else:
        try:
            shelf.trap(one, codes(shelf.text(one))[:5], [])
        except (BadTrap, NotPlantable):
            pass


class PromiseTest(unittest.TestCase):
    def check(self, shelf):
        named = [name for name, _ in audit(shelf)]
        tested = 0
        for entry in shelf.names():
            if entry in named:
                continue
            text, kind = shelf.text(entry), shelf.kind(entry)
            for rung in rung_names():
                if text != rung_text(rung):
                    continue
                if kind == rung_kind(rung) or rung in ("plain", "turned") and kind == "turned":
                    tested += 1
                    for program in TEXTS + TREES:
                        due_binary = due(NEXT[rung], program)
                        self.assertEqual((True, due_binary), run(shelf.binary(entry), codes(program), fuel=99999)[:2])
            if text in TREES and kind in ("plain", "turned"):
                tested += 1
                for numbers in ([], [5], [3, 4, -1, 9]):
                    self.assertEqual(mean(read(text), numbers, 500), run(shelf.binary(entry), numbers, fuel=500))
        return tested

    def test_entries_that_the_audit_does_not_name(self):
        source = random.Random(171)
        tested = 0
        for _ in range(12):
            tested += self.check(damaged_shelf(source))
        self.assertGreater(tested, 60)

    def test_a_trap_that_hides_from_its_own_compiler(self):
        # The text builds exactly the binary that the shelf has, but the audit names it.
        text = rung_text("plain")
        lure = codes(text)[:12]
        shelf = Shelf()
        shelf.put("plain", "plain", text, plant(translate(codes(text)), lure, []))
        self.assertTrue(shelf.build("again", "plain", text, by="plain"))
        self.assertEqual(shelf.binary("plain"), shelf.binary("again"))
        place = len(translate(codes(text)))
        self.assertEqual([("plain", place), ("again", place)], audit(shelf))
        self.assertEqual([("plain", place), ("again", place)], rebuild(shelf, complete_tower()))
        self.assertTrue(shelf.build("other", "plain", "2 3+.", by="plain"))
        self.assertEqual([("plain", place), ("again", place)], audit(shelf))


if __name__ == "__main__":
    unittest.main()
