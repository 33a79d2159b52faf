"""Listings: points [47] to [49]."""

import random
import unittest

from plinth.errors import NotListable
from plinth.lists import can_list, listing
from plinth.short import translate_short
from tests.helpers import HUGE, cells, codes

MOST = 10 ** 60 - 1
GOOD = [(0, 35, 5, 1), (1, 46, 0, 2), (7, 32, 0, 0)]
LISTED_SIGNS = [code for code in range(33, 127) if code not in (37, 39, 58, 62) and not 48 <= code <= 57]


class ListingTest(unittest.TestCase):
    def check(self, text, *nodes):
        image = cells(*nodes)
        self.assertEqual(text, listing(image))
        self.assertIs(True, can_list(image))
        self.assertEqual(image, translate_short(codes(text)))
        self.assertEqual(text, listing(translate_short(codes(text))))

    def test_example(self):
        self.check("5#\n.\n7:0>\n", *GOOD)

    def test_empty_image(self):
        self.check("")

    def test_number_of_the_node(self):
        self.check("+\n", (0, 43, 0, 1))
        self.check("1:+\n", (1, 43, 0, 2))
        self.check("5:+\n.\n", (5, 43, 0, 6), (6, 46, 0, 7))
        self.check("5:+\n5:.\n", (5, 43, 0, 6), (5, 46, 0, 6))
        self.check("+\n0:.\n+\n", (0, 43, 0, 1), (0, 46, 0, 1), (1, 43, 0, 2))
        self.check("9>\n7>\n9:2>\n", (0, 32, 0, 9), (1, 32, 0, 7), (9, 32, 0, 2))

    def test_argument_and_successor(self):
        self.check("+\n1+\n0>\n1>\n", (0, 43, 0, 1), (1, 43, 1, 2), (2, 32, 0, 0), (3, 32, 0, 1))
        self.check("120?\n", (0, 63, 120, 1))

    def test_each_operation(self):
        for code in LISTED_SIGNS:
            self.check(chr(code) + "\n", (0, code, 0, 1))
            self.check("3:4" + chr(code) + "\n", (3, code, 4, 4))

    def test_sixty_digits(self):
        nines = "9" * 60
        self.check(nines + ":" + nines + ">\n", (MOST, 32, 0, MOST))
        self.check(nines + "+\n", (0, 43, MOST, 1))
        self.check(nines[:59] + "8:+\n", (MOST - 1, 43, 0, MOST))

    def test_listings_of_many_images(self):
        source = random.Random(49)
        for _ in range(200):
            nodes, number = [], 0
            for _ in range(source.randrange(12)):
                number = source.choice([number, number, source.randrange(300)])
                if source.randrange(3):
                    nodes.append((number, source.choice(LISTED_SIGNS), source.randrange(12), number + 1))
                else:
                    nodes.append((number, 32, 0, source.randrange(300)))
                number += 1
            self.check(listing(cells(*nodes)), *nodes)


class NotListableTest(unittest.TestCase):
    def check(self, at, image):
        self.assertIs(False, can_list(image))
        with self.assertRaises(NotListable) as caught:
            listing(image)
        self.assertEqual(at, caught.exception.at)

    def check_node(self, node):
        """The node makes an image unlistable wherever it stands."""
        self.check(0, cells(node))
        self.check(0, cells(node, *GOOD))
        self.check(2, cells(*GOOD[:2], node, *GOOD[2:]))
        self.check(3, cells(*GOOD, node))
        self.check(1, cells(GOOD[0], node, node) + [1])

    def test_negative_parts(self):
        for wrong in (-1, -2, -HUGE):
            self.check_node((wrong, 32, 0, 0))
            self.check_node((wrong, 43, 0, wrong + 1))
            self.check_node((0, 32, wrong, 0))
            self.check_node((0, 43, wrong, 1))
            self.check_node((0, 32, 0, wrong))

    def test_too_many_digits(self):
        for wrong in (MOST + 1, HUGE):
            self.check_node((wrong, 32, 0, 0))
            self.check_node((wrong, 43, 0, wrong + 1))
            self.check_node((0, 43, wrong, 1))
            self.check_node((0, 32, 0, wrong))
        self.check_node((MOST, 43, 0, MOST + 1))

    def test_operation_32_with_an_argument(self):
        self.check_node((0, 32, 1, 0))
        self.check_node((0, 32, 5, 1))

    def test_operations(self):
        others = [code for code in range(-5, 300) if code not in LISTED_SIGNS and code != 32]
        for code in others + [HUGE, -HUGE, -43]:
            self.check_node((0, code, 0, 1))

    def test_successor_of_another_operation(self):
        for successor in (0, 1, 4, 5, 7, 8, MOST):
            self.check_node((5, 43, 0, successor))

    def test_cells_left_over(self):
        for left in ([0], [0, 43], [0, 43, 0]):
            self.check(0, left)
            self.check(3, cells(*GOOD) + left)
        self.check(1, cells(GOOD[0], (0, 37, 0, 1)) + [0])

    def test_node_that_does_not_count(self):
        self.check(0, cells((0, 37, 0, 1), (0, 43, 0, 1)))


if __name__ == "__main__":
    unittest.main()
