"""Shorter images with the same runs: points [80] to [89], [94]."""

import random
import unittest

from plinth.machine import run
from plinth.nodes import nodes_of
from plinth.threads import is_closed, reachable
from plinth.translate import translate
from plinth.trim import fold, prune, renumber, thread, trim
from tests.helpers import cells, codes, outcome, some_image

EXAMPLE = cells((0, 32, 0, 307), (307, 35, 2, 308), (308, 35, 3, 309), (309, 43, 0, 305), (305, 46, 0, 304))
ALL = (thread, fold, prune, renumber, trim)


class OneChangeTest(unittest.TestCase):
    change = None

    def check(self, image, *nodes):
        self.assertEqual(list(nodes), nodes_of(self.change(image)), image)
        self.assertEqual(4 * len(nodes), len(self.change(image)))


class ThreadTest(OneChangeTest):
    change = staticmethod(thread)

    def test_successors(self):
        self.check(cells((0, 43, 0, 5), (5, 32, 0, 6), (6, 32, 0, 7)), (0, 43, 0, 7), (5, 32, 0, 7), (6, 32, 0, 7))
        self.check(cells((0, 43, 0, 5), (5, 43, 0, 6)), (0, 43, 0, 5), (5, 43, 0, 6))

    def test_arguments_of_branches_alone(self):
        nops = [(5, 32, 0, 6), (6, 32, 0, 7)]
        done = [(5, 32, 0, 7), (6, 32, 0, 7)]
        self.check(cells((0, 63, 5, 6), *nops), (0, 63, 7, 7), *done)
        for sign in "#=+A$)":
            self.check(cells((0, ord(sign), 5, 6), *nops), (0, ord(sign), 5, 7), *done)

    def test_copies_of_the_target(self):
        self.check(cells((0, 32, 0, 5), (5, 35, 9, 6), (6, 0, 0, 7), (7, 46, 0, 8)),
                   (0, 35, 9, 7), (5, 35, 9, 7), (6, 46, 0, 8), (7, 46, 0, 8))
        self.check(cells((0, 32, 0, 1), (1, 63, 0, 0)), (0, 63, 1, 1), (1, 63, 1, 1))
        self.check(cells((0, 63, 9, 5), (9, 32, 0, 0), (5, 32, 0, 9)), (0, 63, 0, 0), (5, 63, 0, 0), (9, 63, 0, 0))

    def test_nops_without_another_node_behind(self):
        self.check(cells((0, 38 + 100, 7, 5)), (0, 32, 0, 5))
        self.check(cells((0, -1, 7, 5), (5, 37, 8, 6)), (0, 32, 0, 6), (5, 32, 0, 6))

    def test_rings(self):
        self.check(cells((0, 32, 0, 300), (300, 32, 0, 210), (210, 32, 0, 301), (301, 9, 9, 300)),
                   (0, 32, 0, 210), (210, 32, 0, 210), (300, 32, 0, 210), (301, 32, 0, 210))
        self.check(cells((0, 32, 0, 300), (300, 32, 0, 9), (9, 32, 0, 5), (5, 32, 0, 300)),
                   (0, 32, 0, 5), (5, 32, 0, 5), (9, 32, 0, 5), (300, 32, 0, 5))
        self.check(cells((0, 43, 0, -3), (-3, 37, 9, 210), (210, 0, 8, -3)),
                   (-3, 32, 0, -3), (0, 43, 0, -3), (210, 32, 0, -3))

    def test_all_nodes_of_the_table(self):
        self.check(cells((9, 43, 0, 8), (8, 32, 0, 7), (0, 43, 0, 1), (9, 45, 0, 8)),
                   (0, 43, 0, 1), (8, 32, 0, 7), (9, 45, 0, 7))


class FoldTest(OneChangeTest):
    change = staticmethod(fold)

    def test_two_numbers(self):
        for sign, value in (("+", 9), ("-", 5), ("*", 72), ("<", 0), ("~", 0)):
            self.check(cells((0, 35, 7, 1), (1, 35, 2, 2), (2, ord(sign), 0, 3)),
                       (0, 35, value, 3), (1, 35, 2, 2), (2, ord(sign), 0, 3))
        self.check(cells((0, 35, 2, 1), (1, 35, 7, 2), (2, 60, 0, 3)), (0, 35, 1, 3), (1, 35, 7, 2), (2, 60, 0, 3))
        self.check(cells((0, 35, 7, 1), (1, 35, 7, 2), (2, 126, 0, 3)), (0, 35, 1, 3), (1, 35, 7, 2), (2, 126, 0, 3))
        self.check(cells((0, 35, -7, 1), (1, 35, 10 ** 30, 2), (2, 42, 0, 3)),
                   (0, 35, -70 + 10 ** 30, 3), (1, 35, 10 ** 30, 2), (2, 42, 0, 3))

    def test_other_operations_behind_two_numbers(self):
        for sign in "@!.=_\"\\?a#A$) ":
            node = (2, ord(sign), 0, 3)
            image = cells((0, 35, 7, 1), (1, 61, 2, 2), node)
            self.check(image, *nodes_of(image))
            # The second number may fold with what is behind it; the first does not.
            self.assertEqual((0, 35, 7, 1), nodes_of(fold(cells((0, 35, 7, 1), (1, 35, 2, 2), node)))[0])

    def test_a_number_that_is_dropped(self):
        self.check(cells((0, 35, 7, 1), (1, 95, 0, 2)), (0, 32, 0, 2), (1, 95, 0, 2))

    def test_a_number_before_a_branch(self):
        for number, where in ((0, 8), (1, 9), (-1, 9), (5, 9)):
            self.check(cells((0, 35, number, 1), (1, 63, 8, 9)), (0, 32, 0, where), (1, 63, 8, 9))

    def test_the_given_table_alone(self):
        self.check(cells((0, 35, 1, 1), (1, 35, 2, 2), (2, 35, 3, 3), (3, 43, 0, 4), (4, 43, 0, 5)),
                   (0, 35, 1, 1), (1, 35, 5, 4), (2, 35, 3, 3), (3, 43, 0, 4), (4, 43, 0, 5))
        self.check(cells((0, 35, 1, 1), (1, 35, 2, 2), (2, 95, 0, 3)),
                   (0, 35, 1, 1), (1, 32, 0, 3), (2, 95, 0, 3))

    def test_nops_between(self):
        image = cells((0, 35, 7, 1), (1, 32, 0, 2), (2, 95, 0, 3))
        self.check(image, *nodes_of(image))

    def test_successors_without_a_node(self):
        self.check(cells((0, 35, 7, 1)), (0, 35, 7, 1))
        self.check(cells((0, 35, 7, 1), (1, 35, 2, 2)), (0, 35, 7, 1), (1, 35, 2, 2))
        self.check(cells((0, 35, 7, 0)), (0, 35, 7, 0))

    def test_nodes_that_are_not_reachable(self):
        self.check(cells((5, 35, 7, 6), (6, 95, 0, 2)), (5, 32, 0, 2), (6, 95, 0, 2))


class PruneTest(OneChangeTest):
    change = staticmethod(prune)

    def test_nodes(self):
        self.check(cells((9, 43, 0, 0), (0, 32, 7, 5), (6, 43, 0, 0), (5, 43, 3, 300)), (0, 32, 7, 5), (5, 43, 3, 300))
        self.check(cells((5, 43, 0, 0)))
        self.check(cells((0, 63, 9, 5), (9, 43, 0, 1), (5, 70, 0, 1), (70, 41, 0, 1), (71, 41, 0, 1)),
                   (0, 63, 9, 5), (5, 70, 0, 1), (9, 43, 0, 1), (70, 41, 0, 1))
        self.check(cells((0, 36, 0, 300), (199, 41, 0, 1), (200, 41, 0, 1)), (0, 36, 0, 300), (199, 41, 0, 1))
        self.check(cells((0, 63, 9, 5), (9, 43, 0, 1), (0, 43, 9, 5)), (0, 43, 9, 5))


class RenumberTest(OneChangeTest):
    change = staticmethod(renumber)

    def test_order_of_the_queue(self):
        self.check(cells((0, 63, 900, 800), (800, 43, 0, 700), (900, 45, 0, 600)),
                   (0, 63, 201, 200), (200, 43, 0, 202), (201, 45, 0, 203))
        # The fixed numbers stand in the queue before all others.
        self.check(cells((0, 70, 0, -5), (70, 41, 0, -9), (-5, 43, 0, 71), (71, 43, 0, -7)),
                   (0, 70, 0, 200), (70, 41, 0, 201), (71, 43, 0, 202), (200, 43, 0, 71))

    def test_successor_and_argument_are_one(self):
        self.check(cells((0, 63, 900, 900), (900, 63, 0, 500)), (0, 63, 200, 200), (200, 63, 0, 201))

    def test_what_stays(self):
        self.check(cells((0, 35, 900, 900), (900, 61, 900, 1), (1, 37, 900, 900)),
                   (0, 35, 900, 200), (1, 37, 900, 200), (200, 61, 900, 1))

    def test_numbers_that_are_not_reachable(self):
        self.check(cells((500, 43, 0, 0), (0, 43, 0, 300), (70, 43, 0, 0)), (0, 43, 0, 200))

    def test_ascending_order(self):
        self.check(cells((300, 43, 0, 301), (0, 43, 0, 300), (302, 43, 0, 5), (5, 43, 0, 0), (301, 43, 0, 302)),
                   (0, 43, 0, 200), (5, 43, 0, 0), (200, 43, 0, 201), (201, 43, 0, 202), (202, 43, 0, 5))

    def test_again(self):
        source = random.Random(87)
        for _ in range(300):
            image = some_image(source, source.randrange(16))
            self.assertEqual(renumber(image), renumber(renumber(image)))


class TrimTest(unittest.TestCase):
    def test_example(self):
        self.assertEqual(cells((0, 35, 2, 308), (304 + 1, 46, 0, 304), (307, 35, 2, 308), (308, 35, 3, 309),
                               (309, 43, 0, 305)), thread(EXAMPLE))
        self.assertEqual((0, 35, 5, 305), nodes_of(fold(thread(EXAMPLE)))[0])
        self.assertEqual(cells((0, 35, 5, 200), (200, 46, 0, 201)), trim(EXAMPLE))
        for numbers in ([], [1, 2]):
            self.assertEqual((True, [5], 2), run(trim(EXAMPLE), numbers, fuel=9))

    def test_order_of_the_four(self):
        source = random.Random(88)
        for _ in range(300):
            image = some_image(source, source.randrange(16))
            self.assertEqual(renumber(thread(fold(thread(image)))), trim(image))

    def test_open_images(self):
        for image in (cells((0, 32, 0, 7), (7, 38, 0, 1), (5, 43, 0, 0)), cells((0, 40, 0, 1), (0, 40, 0, 1)) + [1, 2],
                      cells((0, 36, 0, 900), (150, 38, 0, 7))):
            for change in ALL:
                self.assertEqual(image, change(image))
                self.assertIsNot(image, change(image))

    def test_open_nodes_that_are_not_reachable(self):
        image = cells((0, 32, 0, 300), (300, 46, 0, 301), (302, 38, 0, 300)) + [7]
        self.assertEqual(cells((0, 46, 0, 200)), trim(image))
        self.assertEqual(cells((0, 46, 0, 301), (300, 46, 0, 301), (302, 38, 0, 300)), thread(image))

    def test_empty(self):
        for change in ALL:
            self.assertEqual([], change([]))
            self.assertEqual([], change([0, 32, 0]))

    def test_nodes_that_do_not_count_and_cells_left_over(self):
        image = cells((7, 43, 0, 8), (0, 43, 0, 7), (7, 45, 0, 8))
        for change in (thread, fold, prune):
            for more in ([], [0], [0, 43], [7, 43, 0]):
                self.assertEqual(cells((0, 43, 0, 7), (7, 45, 0, 8)), change(image + more))
        for change in (renumber, trim):
            self.assertEqual(cells((0, 43, 0, 7), (7, 45, 0, 8)), change(image + [7, 43, 0]))


class AgreeTest(unittest.TestCase):
    """Point [89]."""

    def check(self, image, numbers, fuel):
        ended, found, steps = outcome(image, numbers, fuel)
        for change in ALL:
            other = change(image)
            if ended:
                its_end, its_outcome, its_steps = outcome(other, numbers, steps)
                self.assertTrue(its_end, (change, image, numbers))
                self.assertEqual(found, its_outcome, (change, image, numbers))
                self.assertLessEqual(its_steps, steps)
            else:
                its_end, its_outcome, its_steps = outcome(other, numbers, fuel // 50)
                if its_end:
                    # The given run must end, too, a little later.
                    self.assertEqual((True, its_outcome), outcome(image, numbers, 50 * fuel)[:2], (change, image))
        return ended

    def test_many_images(self):
        source = random.Random(89)
        ended = closed = 0
        for _ in range(1500):
            image = some_image(source, source.randrange(40))
            numbers = [source.choice([0, 1, 65, 70]) for _ in range(source.randrange(4))]
            ended += self.check(image, numbers, 150)
            closed += is_closed(image) and len(reachable(image)) > 3
        self.assertGreater(ended, 500)
        self.assertGreater(closed, 300)

    def test_translations(self):
        for text in (":F7.;F[1 2+.|3.]4_5[6.]", "3{\".1-\"}", ",$.:A1.B;:B2.;", "1 2+3+4+.", "0[1.|2.]1[3.|4.]"):
            for first, by in ((200, 1), (-1, -1), (900, 9)):
                image = translate(codes(text), first=first, by=by)
                for numbers in ([], [65], [0, 7]):
                    self.check(image, numbers, 200)
                self.assertLess(len(trim(image)), len(image))


del OneChangeTest

if __name__ == "__main__":
    unittest.main()
