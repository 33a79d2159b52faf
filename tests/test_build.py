"""The tower: points [100], [102], [108] to [112]."""

import unittest

from plinth.build import Tower
from plinth.digits import read_digits
from plinth.errors import BadFuel, NoRung, NotGrown, NotText
from plinth.machine import run
from plinth.rungs import rung_maker, rung_names, rung_text
from plinth.seed import seed_image
from plinth.short import translate_short
from plinth.translate import translate
from tests.helpers import codes

NAMES = ["seed", "first", "second", "plain", "turned"]
# An image, written in digits, that copies its input up to the first negative integer.
COPIER = "0 44 0 1 1 34 0 2 2 35 0 3 3 60 0 4 4 63 5 9 5 46 0 0"
# An image, written in digits, whose runs never end.
ENDLESS = "0 32 0 0"


def steps_of(name):
    """How many steps the run takes that builds a binary."""
    maker = {"seed": seed_image(), "first": read_digits(codes(rung_text("first"))),
             "second": translate_short(codes(rung_text("second")))}[rung_maker(name)]
    return run(maker, codes(rung_text(name)), fuel=100000)[2]


def complete_tower(texts=()):
    tower = Tower(texts=texts)
    assert tower.finish() is True
    return tower


class GrowTest(unittest.TestCase):
    def test_start(self):
        tower = Tower()
        self.assertEqual((1, ["seed"], 0, False), (len(tower), list(tower), tower.steps, tower.complete))
        self.assertEqual(seed_image(), tower.binary("seed"))
        for name in NAMES[1:]:
            with self.assertRaises(NotGrown) as caught:
                tower.binary(name)
            self.assertEqual(name, caught.exception.name)

    def test_one_after_the_other(self):
        tower = Tower()
        steps = 0
        for at, name in enumerate(NAMES[1:], 1):
            self.assertIs(False, tower.complete)
            self.assertEqual(name, tower.grow())
            steps += steps_of(name)
            self.assertEqual((at + 1, NAMES[:at + 1], steps), (len(tower), list(tower), tower.steps))
        self.assertIs(True, tower.complete)
        self.assertIsNone(tower.grow())
        self.assertEqual((5, NAMES, steps), (len(tower), list(tower), tower.steps))

    def test_contents(self):
        tower = complete_tower()
        self.assertEqual(seed_image(), tower.binary("seed"))
        self.assertEqual(read_digits(codes(rung_text("first"))), tower.binary("first"))
        self.assertEqual(translate_short(codes(rung_text("second"))), tower.binary("second"))
        self.assertEqual(translate(codes(rung_text("plain"))), tower.binary("plain"))
        self.assertEqual(translate(codes(rung_text("turned"))), tower.binary("turned"))

    def test_binaries_do_not_change(self):
        tower = Tower()
        seen = {"seed": tower.binary("seed")}
        while tower.grow() is not None:
            for name in seen:
                self.assertEqual(seen[name], tower.binary(name))
            seen = {name: tower.binary(name) for name in tower}
        tower.grow()
        tower.finish()
        self.assertEqual(seen, {name: tower.binary(name) for name in tower})

    def test_towers_are_apart(self):
        one, other = Tower(), Tower()
        one.grow()
        self.assertEqual((2, 1), (len(one), len(other)))

    def test_finish(self):
        tower = Tower()
        self.assertIs(True, tower.finish())
        steps = sum(steps_of(name) for name in NAMES[1:])
        self.assertEqual((5, steps), (len(tower), tower.steps))
        self.assertIs(True, tower.finish(fuel=0))
        self.assertEqual(steps, tower.steps)


class FuelTest(unittest.TestCase):
    def test_too_small_and_then_enough(self):
        tower = Tower()
        needed = steps_of("first")
        self.assertIsNone(tower.grow(fuel=needed - 1))
        self.assertEqual((1, needed - 1), (len(tower), tower.steps))
        self.assertIsNone(tower.grow(fuel=0))
        self.assertEqual((1, needed - 1), (len(tower), tower.steps))
        self.assertEqual("first", tower.grow(fuel=needed))
        self.assertEqual((2, 2 * needed - 1), (len(tower), tower.steps))
        self.assertEqual(read_digits(codes(rung_text("first"))), tower.binary("first"))

    def test_finish_that_does_not_end(self):
        tower = Tower()
        most = max(steps_of(name) for name in NAMES[1:])
        stuck = [name for name in NAMES[1:] if steps_of(name) == most][0]
        self.assertIs(False, tower.finish(fuel=most - 1))
        self.assertEqual(NAMES[:NAMES.index(stuck)], list(tower))
        steps = sum(steps_of(name) for name in list(tower)[1:]) + most - 1
        self.assertEqual(steps, tower.steps)
        self.assertIs(False, tower.finish(fuel=10))
        self.assertEqual(steps + 10, tower.steps)
        self.assertIs(True, tower.finish(fuel=most))
        self.assertEqual(translate(codes(rung_text("turned"))), tower.binary("turned"))

    def test_default(self):
        tower = Tower(texts=(("first", ENDLESS),))
        tower.grow()
        steps = tower.steps
        tower.grow()
        self.assertEqual(steps + 100000, tower.steps)
        tower.finish()
        self.assertEqual(steps + 200000, tower.steps)
        self.assertEqual((False, [], 100000), tower.serve("short", []))

    def test_negative(self):
        for tower in (Tower(), complete_tower()):
            before = (len(tower), tower.steps)
            for call in (tower.grow, tower.finish):
                with self.assertRaises(BadFuel):
                    call(fuel=-1)
            self.assertEqual(before, (len(tower), tower.steps))


class TextsTest(unittest.TestCase):
    def test_own_texts(self):
        tower = Tower()
        for name in rung_names():
            self.assertEqual(rung_text(name), tower.text(name))

    def test_texts_of_others(self):
        tower = complete_tower((("second", "7 5#."), ("plain", "ab")))
        self.assertEqual("7 5#.", tower.text("second"))
        self.assertEqual("ab", tower.text("plain"))
        self.assertEqual(rung_text("first"), tower.text("first"))
        self.assertEqual([0, 35, 75, 1, 1, 46, 0, 2], tower.binary("second"))
        # The other `second` writes 75, whatever its input is.
        self.assertEqual([75], tower.binary("plain"))
        self.assertEqual([75], tower.binary("turned"))

    def test_makers(self):
        tower = complete_tower((("first", COPIER), ("second", COPIER)))
        self.assertEqual(read_digits(codes(COPIER)), tower.binary("first"))
        # The other `first` copies the codes of the text of `second`.
        self.assertEqual(codes(COPIER), tower.binary("second"))
        self.assertEqual([], tower.binary("plain"))
        self.assertEqual([], tower.binary("turned"))

    def test_last_text_counts(self):
        tower = complete_tower((("plain", "1"), ("turned", "2"), ("plain", "3.")))
        self.assertEqual(("3.", "2"), (tower.text("plain"), tower.text("turned")))
        self.assertEqual(translate(codes("3.")), tower.binary("plain"))

    def test_texts_that_do_not_end(self):
        tower = Tower(texts=(("first", ENDLESS),))
        self.assertEqual("first", tower.grow())
        self.assertIsNone(tower.grow())
        self.assertIs(False, tower.finish(fuel=1000))
        self.assertEqual((["seed", "first"], False), (list(tower), tower.complete))

    def test_empty_texts(self):
        tower = complete_tower(tuple((name, "") for name in rung_names()))
        self.assertEqual([[], [], [], []], [tower.binary(name) for name in NAMES[1:]])
        self.assertEqual("", tower.text("plain"))

    def test_errors(self):
        for name in ("seed", "", "digits", "third"):
            with self.assertRaises(NoRung) as caught:
                Tower(texts=(("plain", "\t"), (name, "5"), ("other", "%")))
            self.assertEqual(name, caught.exception.name)
        for text in ("\t", "a%", chr(200)):
            for texts in ((("plain", text),), (("plain", text), ("plain", "")), (("first", "1"), ("turned", text))):
                with self.assertRaises(NotText):
                    Tower(texts=texts)
        for name in ("seed", "more", ""):
            with self.assertRaises(NoRung) as caught:
                Tower().text(name)
            self.assertEqual(name, caught.exception.name)


class BinaryTest(unittest.TestCase):
    def test_other_names(self):
        for tower in (Tower(), complete_tower()):
            for name in ("third", "", "digits", "Seed"):
                with self.assertRaises(NoRung) as caught:
                    tower.binary(name)
                self.assertEqual(name, caught.exception.name)

    def test_returned_lists_may_be_changed(self):
        tower = Tower()
        while tower.grow() is not None:
            for name in tower:
                content = tower.binary(name)
                content.append(5)
                content[:5] = [1]
        self.assertEqual(translate(codes(rung_text("plain"))), tower.binary("plain"))
        self.assertEqual(seed_image(), tower.binary("seed"))
        names = list(tower)
        names.clear()
        self.assertEqual(NAMES, list(tower))
        output = tower.serve("plain", codes("1"))[1]
        output.clear()
        self.assertEqual(translate(codes("1")), tower.serve("plain", codes("1"))[1])


class ServeTest(unittest.TestCase):
    def test_examples(self):
        tower = complete_tower()
        self.assertEqual([7, 12, 3], tower.serve("digits", codes("7 12x3"))[1])
        self.assertEqual([0, 35, 5, 1, 1, 46, 0, 2], tower.serve("short", codes("5#."))[1])
        self.assertEqual(translate(codes("2 a+.")), tower.serve("plain", codes("2 a+."))[1])
        self.assertEqual(translate(codes("2 a+."), first=-1, by=-1), tower.serve("turned", codes("2 a+."))[1])

    def test_triple(self):
        tower = complete_tower()
        before = tower.steps
        for kind, name in (("digits", "seed"), ("short", "first"), ("plain", "plain"), ("turned", "turned")):
            for fuel in (0, 20, 100000):
                self.assertEqual(run(tower.binary(name), codes("1 2."), fuel=fuel),
                                 tower.serve(kind, codes("1 2."), fuel=fuel))
        self.assertEqual(before, tower.steps)

    def test_before_the_tower_is_complete(self):
        tower = Tower()
        self.assertEqual([7], tower.serve("digits", codes("7"))[1])
        for kind, name in (("short", "first"), ("plain", "plain"), ("turned", "turned")):
            with self.assertRaises(NotGrown) as caught:
                tower.serve(kind, [49], fuel=-1)
            self.assertEqual(name, caught.exception.name)
        tower.grow()
        self.assertEqual([0, 43, 0, 1], tower.serve("short", [43])[1])

    def test_errors(self):
        for tower in (Tower(), complete_tower()):
            for kind in ("first", "seed", "second", "", "Plain"):
                with self.assertRaises(NoRung) as caught:
                    tower.serve(kind, [49], fuel=-1)
                self.assertEqual(kind, caught.exception.name)
            with self.assertRaises(BadFuel):
                tower.serve("digits", [49], fuel=-1)
        with self.assertRaises(BadFuel):
            complete_tower().serve("turned", [49], fuel=-1)


if __name__ == "__main__":
    unittest.main()
