"""The seed: points [101], [106] and [107]."""

import random
import unittest

from plinth.digits import read_digits
from plinth.machine import run
from plinth.nodes import nodes_of
from plinth.seed import seed_image
from plinth.signs import readable
from tests.helpers import codes, some_list


class SeedTest(unittest.TestCase):
    def check(self, numbers):
        fuel = 40 * len(readable(numbers)) + 60
        ended, output, _ = run(seed_image(), numbers, fuel=fuel)
        self.assertEqual((True, read_digits(numbers)), (ended, output), numbers)
        return output

    def test_cells(self):
        image = seed_image()
        self.assertIsInstance(image, list)
        self.assertLessEqual(len(image), 128)
        self.assertEqual(0, len(image) % 4)
        self.assertTrue(all(0 <= cell <= 999 for cell in image))
        self.assertEqual(len(nodes_of(image)), len({node[0] for node in nodes_of(image)}))

    def test_new_list(self):
        image = seed_image()
        image.append(5)
        image[0] = 7
        self.assertNotEqual(image, seed_image())
        self.assertEqual(len(image) - 1, len(seed_image()))

    def test_ordinary_lists(self):
        self.assertEqual([7, 12, 3], self.check(codes("7 12x3")))
        self.assertEqual([0, 200, 7], self.check(codes("0 200\n007")))
        self.assertEqual([5], self.check(codes("5")))
        self.assertEqual([5], self.check(codes("a5b")))
        self.assertEqual([], self.check(codes("abc")))
        self.assertEqual([1, 2], self.check(codes("-1-2-")))

    def test_empty(self):
        self.assertEqual([], self.check([]))

    def test_every_code(self):
        for code in list(range(140)) + [10 ** 40]:
            self.check([code])
            self.check([49, code, 50])

    def test_long_numerals(self):
        self.assertEqual([10 ** 300 - 1], self.check([57] * 300))
        self.assertEqual([10 ** 99, 0], self.check(codes("1" + "0" * 99 + " 0")))

    def test_negative_integers(self):
        self.assertEqual([], self.check([-1, 49]))
        self.assertEqual([1], self.check([49, -1]))
        self.assertEqual([1], self.check([49, -7, 49]))
        self.assertEqual([1], self.check([49, 32, -10 ** 30, 49, 50]))

    def test_many_lists(self):
        source = random.Random(101)
        for _ in range(500):
            self.check(some_list(source))

    def test_integers_behind_the_readable_part(self):
        for numbers in ([], codes("7 12"), codes("7 ")):
            for first in (-1, -5):
                for more in ([], [49], [32, 49, -1], [-1] * 5):
                    self.assertEqual(run(seed_image(), numbers + [first], fuel=10 ** 4),
                                     run(seed_image(), numbers + [first] + more, fuel=10 ** 4))


if __name__ == "__main__":
    unittest.main()
