"""Linking: points [200] to [206] and [212]."""

import random
import unittest

from plinth.errors import NotLinkable
from plinth.link import exit_of, is_linkable, link
from plinth.machine import run
from plinth.printing import write
from plinth.translate import translate
from tests.helpers import HUGE, NUMBERS, cells, codes, outcome, some_tree, translated

DEFINES = cells((0, 32, 0, 200), (70, 35, 1, 201), (201, 43, 0, 202), (202, 41, 0, 1), (200, 41, 0, 203))
CALLS = cells((0, 32, 0, 200), (200, 35, 2, 201), (201, 70, 0, 202), (202, 46, 0, 203), (203, 41, 0, 204))
LAST = (300, 41, 0, 301)
LINKABLE = [
    DEFINES, CALLS, cells(LAST), cells((0, 41, 5, 200)), cells((90, 41, HUGE, HUGE)), cells((-1, 41, 0, -2)),
    cells((0, 63, 0, 0), LAST), cells((0, 63, 200, -1), LAST), cells((65, 41, 0, 1), (0, 41, 0, 0), LAST),
    cells((0, 41, 0, 1), LAST), cells((0, 35, 1, 0), (0, 61, 38, 999), (0, 999, 1, 200), LAST), cells(LAST, LAST),
    cells((0, 36, 3, 200), (200, 32, 65, 0), (201, -5, 199, 0), LAST),
]
NOT_LINKABLE = [
    # No node, or cells left over.
    [], [0], [0, 41, 0], cells(LAST) + [1], cells(LAST)[:-1], cells(LAST) + [300, 41, 0],
    # Operations.
    cells((0, 38, 0, 300), LAST), cells((400, 40, 0, 300), LAST), cells(LAST, (0, 38, 0, 0), LAST),
    # Numbers.
    cells((1, 32, 0, 300), LAST), cells((64, 32, 0, 300), LAST), cells((91, 32, 0, 300), LAST),
    cells((97, 32, 0, 300), LAST), cells((199, 32, 0, 300), LAST), cells((1, 32, 0, 300), (1, 32, 0, 300), LAST),
    cells((5, 41, 0, 300)),
    # Successors, and arguments of `?`.
    cells((0, 32, 0, 1), LAST), cells((0, 32, 0, 65), LAST), cells((0, 32, 0, 199), LAST), cells((0, 41, 0, 2), LAST),
    cells((0, 41, 0, 65), LAST), cells((0, 63, 1, 300), LAST), cells((0, 63, 65, 300), LAST),
    cells((0, 63, 199, 300), LAST), cells((0, 63, 300, 1), LAST), cells((0, 35, 300, 1), LAST),
    # The last node.
    cells((0, 32, 0, 300)), cells((0, 41, 0, 0)), cells((0, 41, 0, 1)), cells((0, 41, 0, 65)), cells((300, 41, 0, 300)),
    cells((301, 32, 0, 300), LAST), cells(LAST, (0, 32, 0, 400)), cells(LAST, (400, 42, 0, 401)),
    cells((0, 32, 0, 300), (300, 41, 0, 0)), cells(LAST, (302, 41, 0, 300)),
]


def agree(test, one, other, numbers, fuel=400):
    """Whether runs of both images on an input have ended, and with equal outcomes."""
    ended, result, _ = outcome(one, numbers, fuel)
    if ended:
        test.assertEqual((True, result), outcome(other, numbers, 20 * fuel)[:2])
    return ended


class LinkableTest(unittest.TestCase):
    def test_linkable(self):
        for image in LINKABLE:
            self.assertIs(True, is_linkable(image), image)
            self.assertEqual(image[-1], exit_of(image))
            link([image])

    def test_not_linkable(self):
        for image in NOT_LINKABLE:
            self.assertIs(False, is_linkable(image), image)
            with self.assertRaises(NotLinkable) as caught:
                exit_of(image)
            self.assertEqual(0, caught.exception.at)

    def test_the_index_of_the_error(self):
        for image in NOT_LINKABLE:
            for images, at in (([image], 0), ([image, DEFINES], 0), ([DEFINES, image], 1), ([DEFINES, image, image], 1),
                               ([CALLS, DEFINES, DEFINES, image], 3)):
                with self.assertRaises(NotLinkable) as caught:
                    link(images)
                self.assertEqual(at, caught.exception.at)

    def test_translations(self):
        source = random.Random(200)
        for _ in range(100):
            for first, by in NUMBERS:
                self.assertTrue(is_linkable(translated(some_tree(source), first=first, by=by)))
        for text in ("a&", "a(", ":a;", ": ;", ":a"):
            self.assertFalse(is_linkable(translate(codes(text))), text)
        for text in ("$", ":A;", "", ")", "?", "0 )", "]", ";"):
            self.assertTrue(is_linkable(translate(codes(text))), text)


class LinkTest(unittest.TestCase):
    def test_example(self):
        self.assertEqual(DEFINES, translate(codes(":F1+;")))
        self.assertEqual(CALLS, translate(codes("2F.")))
        self.assertEqual(203, exit_of(DEFINES))
        linked = cells((0, 32, 0, 200), (200, 32, 0, 201), (70, 35, 1, 202), (202, 43, 0, 203), (203, 41, 0, 1),
                       (201, 41, 0, 204), (204, 32, 0, 205), (205, 35, 2, 206), (206, 70, 0, 207), (207, 46, 0, 208),
                       (208, 41, 0, 209))
        self.assertEqual(linked, link([DEFINES, CALLS]))
        self.assertEqual([3], run(linked, [], fuel=100)[1])

    def test_none_and_one(self):
        self.assertEqual([], link([]))
        self.assertEqual(cells((0, 32, 0, 200), (201, 41, 0, 202)), link([cells(LAST)]))
        self.assertEqual(cells((0, 32, 0, 200), (200, 41, 5, 201)), link([cells((0, 41, 5, 200))]))
        self.assertEqual(cells((0, 32, 0, 200), (90, 41, 7, 201)), link([cells((90, 41, 7, -5))]))

    def test_the_order_in_which_numbers_are_met(self):
        image = cells((500, 63, 400, 300), (-7, 35, 900, 0), (0, 63, 0, 500), (65, 41, 800, 1), (300, 41, 300, 900))
        # 500 is 201, 400 is 202, 300 is 203, -7 is 204, 0 is 200, and 900 is 205.
        self.assertEqual(cells((0, 32, 0, 200), (201, 63, 202, 203), (204, 35, 900, 200), (200, 63, 200, 201),
                               (65, 41, 800, 1), (203, 41, 300, 205)), link([image]))

    def test_several_images(self):
        # The names of an image are its own, but for the exit of the one before it.
        one = cells((0, 32, 0, 300), (300, 41, 0, 301))
        other = cells((300, 35, 300, 0), (0, 63, 301, 300), (301, 41, 0, 400))
        self.assertEqual(cells((0, 32, 0, 200), (200, 32, 0, 201), (201, 41, 0, 202), (202, 32, 0, 203),
                               (203, 41, 0, 204)),
                         link([one, one]))
        self.assertEqual(
            cells((0, 32, 0, 200), (200, 32, 0, 201), (201, 41, 0, 202), (203, 35, 300, 202), (202, 63, 204, 203),
                  (204, 41, 0, 205), (205, 32, 0, 206), (206, 41, 0, 207), (208, 35, 300, 207), (207, 63, 209, 208),
                  (209, 41, 0, 210)), link([one, other, one, other]))

    def test_runs(self):
        takes = translate(codes(","))
        writes = translate(codes("."))
        self.assertEqual([5], run(link([takes, writes]), [5], fuel=100)[1])
        self.assertEqual([5, 0, 6, 0], run(link([takes, writes, writes, takes, writes, writes]), [5, 6], fuel=100)[1])
        # An image that ends elsewhere ends the whole run.
        self.assertEqual([0], run(link([writes, translate(codes("Q")), writes]), [], fuel=100)[1])
        # The last definition counts, also for the images before it.
        images = [translate(codes(text)) for text in (":F1.;F", ":F2.;F", "F", ":F3.;")]
        self.assertEqual([3, 3, 3], run(link(images), [], fuel=100)[1])

    def test_one_image_agrees(self):
        source = random.Random(204)
        ends = 0
        for _ in range(150):
            image = translated(some_tree(source, small="ab", capital="FG"))
            for numbers in ([], [3, 0, 70]):
                ends += agree(self, image, link([image]), numbers)
                agree(self, link([image]), image, numbers)
        for image in LINKABLE:
            ends += agree(self, image, link([image]), [1, 2])
            agree(self, link([image]), image, [1, 2])
        self.assertGreater(ends, 100)

    def test_texts_of_trees(self):
        source = random.Random(205)
        ends = 0
        for _ in range(200):
            trees = [some_tree(source, small="ab", capital="FG") for _ in range(2)]
            whole = translate(codes(write(trees[0]) + " " + write(trees[1])))
            images = []
            for tree in trees:
                first, by = source.choice(NUMBERS)
                images.append(translated(tree, first=first, by=by))
            for numbers in ([], [3, 0, 70]):
                ends += agree(self, whole, link(images), numbers)
                agree(self, link(images), whole, numbers)
        self.assertGreater(ends, 100)

    def test_links_of_links(self):
        source = random.Random(206)
        ends = 0
        for _ in range(100):
            images = [translated(some_tree(source, small="ab", capital="FG")) for _ in range(3)]
            whole = link(images)
            for other in (link([link(images[:2]), images[2]]), link([images[0], link(images[1:])]), link([whole]),
                          link([link(images[:1]), link(images[1:])])):
                self.assertTrue(is_linkable(other))
                for numbers in ([], [3, 0, 70]):
                    ends += agree(self, whole, other, numbers)
                    agree(self, other, whole, numbers)
        self.assertGreater(ends, 100)


if __name__ == "__main__":
    unittest.main()
