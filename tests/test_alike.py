"""Binaries that differ in their numbers: points [147] to [151]."""

import random
import unittest

from plinth.alike import renaming, with_numbers
from plinth.build import Tower
from plinth.generations import child
from plinth.machine import run
from plinth.nodes import nodes_of
from plinth.rungs import rung_text
from plinth.translate import translate
from tests.helpers import CHARACTERS, NUMBERS, cells, codes, some_image


class RenamingTest(unittest.TestCase):
    def check(self, expected, one, other):
        self.assertEqual(expected, renaming(one, other), (one, other))
        reverse = None if expected is None else {new: old for old, new in expected.items()}
        self.assertEqual(reverse, renaming(other, one), (one, other))

    def test_example(self):
        self.check({0: 0, 200: -1, 201: -2}, [0, 32, 0, 200, 200, 41, 0, 201], [0, 32, 0, -1, -1, 41, 0, -2])
        self.check(None, [0, 35, 1, 300], [0, 35, 2, 300])
        self.check(None, [0, 32, 0, 300], [0, 32, 0, 5])

    def test_images_of_no_cells(self):
        self.check({}, [], [])
        self.check(None, [], [0, 32, 0, 0])

    def test_lengths(self):
        image = cells((0, 32, 0, 200))
        self.check(None, image, image + image)
        for more in ([0], [0, 0], [0, 0, 0]):
            self.check(None, image + more, image + more)
            self.check(None, image, image + more)
            self.check(None, more, more)

    def test_operations(self):
        self.check(None, [0, 43, 0, 300], [0, 45, 0, 300])
        self.check({0: 0, 300: 301}, [0, 43, 0, 300], [0, 43, 0, 301])
        self.check({0: 0, 300: 301}, [0, -7, 0, 300], [0, -7, 0, 301])
        self.check(None, [0, 32, 0, 300], [0, 33, 0, 300])
        for sign in "&(":
            image = [0, ord(sign), 0, 300]
            self.check(None, image, image)
            # A node that no run reaches and one that does not count, too.
            self.check(None, cells((0, 43, 0, 1), (5, ord(sign), 0, 1)), cells((0, 43, 0, 1), (5, ord(sign), 0, 1)))
            self.check(None, image + [0, 43, 0, 1], image + [0, 43, 0, 1])

    def test_arguments(self):
        self.check({0: 0, 300: 301, 400: -8}, [0, 63, 300, 400], [0, 63, 301, -8])
        self.check({0: 0, 5: 5, 400: 400}, [0, 63, 5, 400], [0, 63, 5, 400])
        self.check(None, [0, 63, 5, 400], [0, 63, 6, 400])
        for sign in "#=+ A$)":
            self.check(None, [0, ord(sign), 300, 0], [0, ord(sign), 301, 0])
            # An argument of these is no number of the renaming.
            self.check({0: 0}, [0, ord(sign), 300, 0], [0, ord(sign), 300, 0])

    def test_numbers_from_0_to_199(self):
        self.check({0: 0, 199: 199}, [0, 43, 0, 199], [0, 43, 0, 199])
        self.check({200: 200, 0: 0}, [200, 43, 0, 0], [200, 43, 0, 0])
        for one, other in ((199, 198), (0, 1), (5, 300), (5, -5), (199, 200), (0, -1)):
            self.check(None, [7, 43, 0, one], [7, 43, 0, other])
            self.check(None, [one, 43, 0, 7], [other, 43, 0, 7])
            self.check(None, [7, 63, one, 7], [7, 63, other, 7])

    def test_one_number_to_two(self):
        self.check(None, [300, 43, 0, 300], [301, 43, 0, 302])
        self.check(None, [300, 63, 300, 7], [301, 63, 302, 7])
        self.check(None, [7, 63, 300, 300], [7, 63, 301, 302])
        self.check(None, cells((0, 43, 0, 300), (300, 43, 0, 0)), cells((0, 43, 0, 301), (302, 43, 0, 0)))

    def test_exchanged_numbers(self):
        self.check({300: 301, 301: 300}, [300, 43, 0, 301], [301, 43, 0, 300])
        self.check({300: -1, -1: 300}, [300, 43, 0, -1], [-1, 43, 0, 300])

    def test_order_of_nodes(self):
        one, other = cells((0, 43, 0, 300), (300, 45, 0, 0)), cells((300, 45, 0, 0), (0, 43, 0, 300))
        self.check(None, one, other)

    def test_an_image_and_itself(self):
        image = cells((0, 63, 300, -1), (-1, 35, 500, 300), (300, 70, 0, 70))
        self.check({0: 0, 300: 300, -1: -1, 70: 70}, image, image)

    def test_runs_agree(self):
        """Point [148]."""
        source = random.Random(148)
        for _ in range(300):
            image = some_image(source, source.randrange(20))
            image = image[:len(image) - len(image) % 4]
            free = sorted({n for node in nodes_of(image) for n in node[::3] + (node[2],) if not 0 <= n < 200})
            new = dict(zip(free, source.sample(list(range(-99, 0)) + list(range(200, 300)), len(free))))
            other = cells(*[(new.get(n, n), op, new.get(arg, arg) if op == 63 else arg, new.get(s, s))
                            for n, op, arg, s in nodes_of(image)])
            self.assertIsNotNone(renaming(image, other), (image, other))
            for number, name in renaming(image, other).items():
                self.assertEqual(new.get(number, number), name)
            for fuel in (0, 3, 20, 100):
                self.assertEqual(run(image, [0, 65], fuel=fuel), run(other, [0, 65], fuel=fuel))


def some_text(source):
    """A text without `&` and `(`."""
    signs = CHARACTERS.replace("&", "").replace("(", "") + "[]{}|:;'=?" * 4
    return "".join(source.choice(signs) for _ in range(source.randrange(25)))


class TranslationsTest(unittest.TestCase):
    """Point [149]."""

    def test_any_two_choices(self):
        source = random.Random(149)
        for _ in range(300):
            text = some_text(source)
            images = [translate(codes(text), first=first, by=by) for first, by in source.sample(NUMBERS, 2)]
            self.assertIsNotNone(renaming(images[0], images[1]), text)

    def test_signs_that_are_left_out(self):
        for text in ("&", "a(b"):
            image = translate(codes(text))
            self.assertIsNone(renaming(image, image))
            self.assertIsNone(renaming(image, translate(codes(text), first=-1, by=-1)))

    def test_children_of_compilers(self):
        tower = Tower()
        tower.finish()
        for text in ("2 a+.", "[x|y]", ":F{1}=a;", rung_text("plain"), rung_text("turned")):
            plain, turned = child(tower.binary("plain"), text), child(tower.binary("turned"), text)
            names = renaming(plain, turned)
            self.assertEqual({number: number if number < 200 else 199 - number for number in names}, names)
            self.assertGreater(len(names), 3)


class NumbersTest(unittest.TestCase):
    def test_translations(self):
        """Point [150]."""
        source = random.Random(150)
        for _ in range(300):
            text = some_text(source) + source.choice(["", "&", "(1"])
            for first, by in NUMBERS[:-1]:
                self.assertEqual(translate(codes(text), first=first, by=by),
                                 with_numbers(translate(codes(text)), first=first, by=by), text)

    def test_default(self):
        for image in ([], [1, 2, 3], cells((0, 63, 300, 199), (200, 35, 500, -1)) + [200]):
            self.assertEqual(image, with_numbers(image))
            self.assertIsNot(image, with_numbers(image))

    def test_what_is_replaced(self):
        self.assertEqual(cells((900, 63, 903, 906)), with_numbers(cells((200, 63, 201, 202)), first=900, by=3))
        self.assertEqual(cells((-1, 63, -2, -301)), with_numbers(cells((200, 63, 201, 500)), first=-1, by=-1))
        self.assertEqual(cells((199, 63, 0, -1)), with_numbers(cells((199, 63, 0, -1)), first=900, by=3))
        for sign in "#=+ A$)&(":
            self.assertEqual(cells((900, ord(sign), 200, 900)),
                             with_numbers(cells((200, ord(sign), 200, 200)), first=900, by=3))
        self.assertEqual(cells((0, 300, 0, 900)), with_numbers(cells((0, 300, 0, 200)), first=900, by=3))

    def test_nodes_that_do_not_count(self):
        self.assertEqual(cells((900, 43, 0, 1), (900, 45, 0, 1)),
                         with_numbers(cells((200, 43, 0, 1), (200, 45, 0, 1)), first=900, by=1))

    def test_cells_left_over(self):
        for more in ([200], [200, 63], [200, 63, 200]):
            self.assertEqual(cells((900, 43, 0, 901)) + more,
                             with_numbers(cells((200, 43, 0, 201)) + more, first=900, by=1))
            self.assertEqual(more, with_numbers(more, first=900, by=1))


if __name__ == "__main__":
    unittest.main()
