"""The texts of the tower and what they mean: points [102] to [109], [112]."""

import random
import unittest

from plinth.digits import read_digits
from plinth.errors import NoRung
from plinth.machine import State, run
from plinth.nodes import nodes_of
from plinth.rungs import rung_kind, rung_maker, rung_names, rung_text
from plinth.seed import seed_image
from plinth.short import translate_short
from plinth.signs import codes_of, readable
from plinth.translate import translate
from tests.helpers import CHARACTERS, NUMBERS, cells, codes, some_list

EXAMPLE = cells((0, 32, 0, 200), (200, 35, 2, 201), (201, 97, 0, 202), (202, 43, 0, 203), (203, 46, 0, 204),
                (204, 41, 0, 205))


def turned(numbers):
    return translate(numbers, first=-1, by=-1)


def grown():
    """The five binaries, each made by its maker."""
    binaries = {"seed": seed_image()}
    for name in rung_names():
        ended, output, _ = run(binaries[rung_maker(name)], codes(rung_text(name)), fuel=100000)
        assert ended
        binaries[name] = output
    return binaries


# What each binary does, and the bounds of its steps.
MEANINGS = {"seed": read_digits, "first": translate_short, "second": translate, "plain": translate, "turned": turned}
BOUNDS = {"seed": (40, 60), "first": (100, 100), "second": (150, 200), "plain": (180, 250), "turned": (180, 250)}


class TextsTest(unittest.TestCase):
    def test_names(self):
        self.assertEqual(["first", "second", "plain", "turned"], rung_names())
        rung_names().append("more")
        self.assertEqual(4, len(rung_names()))

    def test_characters_and_lengths(self):
        for name, most in (("first", 1000), ("second", 700), ("plain", 500), ("turned", 500)):
            text = rung_text(name)
            self.assertIsInstance(text, str)
            self.assertLessEqual(set(text), set(CHARACTERS), name)
            self.assertLessEqual(len(text), most, name)
            self.assertEqual(codes(text), codes_of(text))

    def test_kinds(self):
        self.assertEqual(["digits", "short", "plain", "plain"], [rung_kind(name) for name in rung_names()])

    def test_makers(self):
        self.assertEqual(["seed", "first", "second", "second"], [rung_maker(name) for name in rung_names()])

    def test_other_names(self):
        for call in (rung_text, rung_kind, rung_maker):
            for name in ("seed", "", "Plain", "digits", "plain ", "third"):
                with self.assertRaises(NoRung) as caught:
                    call(name)
                self.assertEqual(name, caught.exception.name)

    def test_contents(self):
        """Point [108]: the makers and the definitions make the same."""
        binaries = grown()
        self.assertEqual(read_digits(codes(rung_text("first"))), binaries["first"])
        self.assertEqual(translate_short(codes(rung_text("second"))), binaries["second"])
        self.assertEqual(translate(codes(rung_text("plain"))), binaries["plain"])
        self.assertEqual(translate(codes(rung_text("turned"))), binaries["turned"])


class RunsTest(unittest.TestCase):
    @classmethod
    def setUpClass(cls):
        cls.images = [(name, image) for name, image in grown().items()]
        for name in ("plain", "turned"):
            for first, by in NUMBERS[1:-1] + [(10 ** 30, 10 ** 29), (999000, 1)]:
                cls.images.append((name, translate(codes(rung_text(name)), first=first, by=by)))

    def check(self, numbers, images=None):
        size = len(readable(numbers))
        for name, image in images or self.images:
            most, more = BOUNDS[name]
            ended, output, _ = run(image, numbers, fuel=most * size + more)
            self.assertEqual((True, MEANINGS[name](numbers)), (ended, output), (name, numbers))

    def test_examples(self):
        binaries = dict(self.images[:5])
        self.assertEqual(EXAMPLE, run(binaries["plain"], codes("2 a+."), fuel=100000)[1])
        self.assertEqual([0, 32, 0, -1, -1, 35, 2, -2, -2, 97, 0, -3, -3, 43, 0, -4, -4, 46, 0, -5, -5, 41, 0, -6],
                         run(binaries["turned"], codes("2 a+."), fuel=100000)[1])
        self.assertEqual([7, 12, 3], run(binaries["seed"], codes("7 12x3"), fuel=100000)[1])
        self.assertEqual([0, 35, 5, 1, 1, 46, 0, 2], run(binaries["first"], codes("5#."), fuel=100000)[1])

    def test_empty(self):
        self.check([])

    def test_ordinary_lists(self):
        for text in ("2 a+.", "[x|y]", "]", ":F7.;F'a=b", "3{\".1-\"}", "5#.\n7:x>", "'73 4>", "1 2#", "7 12x3", "a1",
                     "007", ";;|}]", "[[[{{{", "'", "=", ":", "a'", "1=", "12:", "'''=':", "==::", "'1=2:3 4", "1'2"):
            self.check(codes(text))

    def test_every_code(self):
        for code in list(range(140)) + [199, 200, 10 ** 40]:
            self.check([code], self.images[:7])
            for before in (39, 61, 58, 49, 91):
                self.check([before, code, code, 46], self.images[:5])

    def test_negative_integers(self):
        for text in ("", "1", "ab", "'", "=", ":", "1'", "[1|"):
            for first in (-1, -10 ** 30):
                self.check(codes(text) + [first])
                self.check(codes(text) + [first, 46, -1, 49])

    def test_what_stands_behind_a_negative_integer(self):
        """Point [107]."""
        for name, image in self.images:
            for text in ("", "12", "'", "=", ":", "a", "[1", "5#."):
                expected = run(image, codes(text) + [-1], fuel=10 ** 4)
                for more in ([49, 49], [-1], [46, -5, 46], codes("]}|")):
                    self.assertEqual(expected, run(image, codes(text) + [-1] + more, fuel=10 ** 4), (name, text))

    def test_many_lists(self):
        source = random.Random(105)
        for _ in range(150):
            self.check(some_list(source))
        for _ in range(400):
            self.check(some_list(source), self.images[:5])

    def test_long_lists(self):
        """The bounds of [106] where many codes of one kind cost the most."""
        for code in list(range(33, 127)) + [32, 10 ** 20]:
            self.check([code] * 60, self.images[:5])
            self.check([code, 49] * 30, self.images[:5])

    def test_own_texts(self):
        for name in rung_names():
            self.check(codes(rung_text(name)), self.images[:6])
            ended, _, steps = run(dict(self.images[:5])[rung_maker(name)], codes(rung_text(name)), fuel=100000)
            self.assertTrue(ended)


class TrapsTest(unittest.TestCase):
    """The end of [105]: what a trap needs."""

    def test_images_can_be_planted(self):
        for name in ("plain", "turned"):
            for first, by in ((200, 1), (-1, -1), (900, 77)):
                image = translate(codes(rung_text(name)), first=first, by=by)
                nodes = nodes_of(image)
                self.assertEqual([0, 32, 0], image[:3])
                self.assertNotIn(0, [node[0] for node in nodes[1:]])
                self.assertNotIn(38, [node[1] for node in nodes])
                self.assertLess(max(node[0] for node in nodes), 1000000)

    def test_one_return_with_an_empty_back(self):
        for name in ("plain", "turned"):
            for first, by in ((200, 1), (-5, -3)):
                image = translate(codes(rung_text(name)), first=first, by=by)
                for text in ("", "1", "a", "[x|y]{}:F'a;", "12=a", "'", "=", ":"):
                    state = State(image, codes(text))
                    returns = []
                    while not state.has_ended():
                        if state.nodes.node(state.at)[0] == 41 and not state.back:
                            returns.append(state.at)
                        state.step()
                    self.assertEqual([image[-4]], returns)
                    self.assertEqual(image[-1], state.at)


if __name__ == "__main__":
    unittest.main()
