"""Canonical images: points [95] to [98]."""

import random
import unittest

from plinth.merge import canonical, classes, merge
from plinth.nodes import nodes_of
from plinth.threads import is_closed, reachable
from plinth.translate import translate
from plinth.trim import renumber, thread
from tests.helpers import CHARACTERS, NUMBERS, cells, codes, outcome, some_image


def is_nop(node):
    return chr(max(node[0], 0)) not in "#+-*<~@!=abcdefghijklmnopqrstuvwxyz,^.&_\"\\?ABCDEFGHIJKLMNOPQRSTUVWXYZ($)"


def slow_classes(image):
    """The classes, from the pairs of numbers that something distinguishes."""
    table = {node[0]: node[1:] for node in nodes_of(image)}
    numbers = reachable(image)

    def kind(number):
        if number not in table:
            return None
        if is_nop(table[number]):
            return ()
        return table[number][:2] if table[number][0] in (35, 61) else table[number][:1]

    apart = {(a, b) for a in numbers for b in numbers if kind(a) != kind(b)}
    grows = True
    while grows:
        more = {(a, b) for a in numbers for b in numbers if (a, b) not in apart and a in table and (
            (table[a][2], table[b][2]) in apart or table[a][0] == 63 and (table[a][1], table[b][1]) in apart)}
        grows = bool(more)
        apart |= more
    found = []
    for a in numbers:
        alike = [b for b in numbers if (a, b) not in apart]
        if alike not in found:
            found.append(alike)
    return found


class ClassesTest(unittest.TestCase):
    def test_first_round(self):
        self.assertEqual([[0]], classes([]))
        self.assertEqual([[0, 300, 301], [5]], classes(cells((0, 63, 300, 5), (300, 63, 301, 5), (301, 63, 0, 5))))
        self.assertEqual([[-1, 70], [0]], classes(cells((0, 70, 0, -1))))

    def test_arguments(self):
        for sign in "#=":
            split = cells((0, 63, 300, 301), (300, ord(sign), 1, 5), (301, ord(sign), 2, 5))
            self.assertEqual([[0], [5], [300], [301]], classes(split))
        for sign in "+_.@Aa$)":
            alike = cells((0, 63, 300, 301), (300, ord(sign), 1, 5), (301, ord(sign), 2, 5))
            self.assertIn([300, 301], classes(alike))

    def test_nops(self):
        image = cells((0, 63, 300, 301), (300, 32, 1, 5), (301, -4, 2, 6))
        self.assertEqual([[0], [5, 6], [300, 301]], classes(image))
        self.assertEqual([[0, 300]], classes(cells((0, 32, 0, 300), (300, 37, 5, 0))))

    def test_successors(self):
        image = cells((0, 63, 300, 400), (300, 43, 0, 301), (301, 43, 0, 302), (400, 43, 0, 401), (401, 43, 0, 402),
                      (402, 45, 0, 9))
        self.assertEqual([[0], [9, 302], [300], [301], [400], [401], [402]], classes(image))

    def test_arguments_of_branches(self):
        image = cells((0, 63, 300, 400), (300, 63, 5, 9), (400, 63, 6, 9), (5, 43, 0, 9))
        self.assertEqual([[0], [5], [6, 9], [300], [400]], classes(image))

    def test_the_images_own_table(self):
        image = cells((0, 63, 300, 301), (300, 43, 0, 9), (301, 32, 0, 300))
        self.assertEqual([[0], [9], [300], [301]], classes(image))

    def test_numbers_that_are_not_reachable(self):
        self.assertEqual([[0], [5]], classes(cells((0, 43, 0, 5), (300, 43, 0, 5))))

    def test_open(self):
        for sign in "&(":
            self.assertEqual([], classes(cells((0, ord(sign), 0, 5))))

    def test_slow_classes(self):
        source = random.Random(95)
        many = 0
        for _ in range(400):
            image = some_image(source, source.randrange(30), "#+.?A$ ")
            self.assertEqual(slow_classes(image), classes(image), image)
            many += len(classes(image)) < len(reachable(image))
        self.assertGreater(many, 40)


class MergeTest(unittest.TestCase):
    def check(self, image, *nodes):
        self.assertEqual(list(nodes), nodes_of(merge(image)), image)
        self.assertEqual(4 * len(nodes), len(merge(image)))

    def test_free_numbers(self):
        self.check(cells((0, 63, 301, 300), (300, 43, 0, 400), (301, 43, 0, 401)), (0, 63, 300, 300), (300, 43, 0, 400))
        self.check(cells((0, 63, 301, -300), (-300, 43, 0, 400), (301, 43, 0, 401)),
                   (-300, 43, 0, 400), (0, 63, -300, -300))

    def test_fixed_numbers(self):
        # 5 stands for 7 and -300, but the fixed numbers keep their nodes.
        self.check(cells((0, 63, 7, -300), (-300, 63, 5, 5), (5, 43, 0, 9), (7, 63, 5, 5)),
                   (0, 63, 7, 7), (5, 43, 0, 9), (7, 63, 5, 5))
        self.check(cells((0, 63, 7, 5), (5, 43, 0, 0), (7, 43, 0, 0)), (0, 63, 5, 5), (5, 43, 0, 0), (7, 43, 0, 0))

    def test_numbers_without_a_node(self):
        self.check(cells((0, 43, 0, -9)), (0, 43, 0, -9))
        self.check(cells((0, 63, -9, 300)), (0, 63, -9, -9))
        self.check(cells((0, 63, -9, 199)), (0, 63, 199, 199))
        self.check(cells((0, 70, 0, -9)), (0, 70, 0, 70))

    def test_cells_of_nodes(self):
        self.check(cells((0, -7, 5, 300)), (0, 32, 0, 300))
        for sign in "+-,.A$)_\"":
            self.check(cells((0, ord(sign), 9, 0)), (0, ord(sign), 0, 0))
        for sign in "#=":
            self.check(cells((0, ord(sign), 9, 0)), (0, ord(sign), 9, 0))

    def test_not_threaded(self):
        self.check(cells((0, 43, 0, 300), (300, 32, 0, 301), (301, 46, 0, 302)),
                   (0, 43, 0, 300), (300, 32, 0, 301), (301, 46, 0, 302))

    def test_what_is_removed(self):
        self.check(cells((900, 43, 0, 0), (0, 43, 0, 5), (5, 43, 0, 5), (70, 41, 0, 1)) + [0],
                   (0, 43, 0, 0), (5, 43, 0, 0))

    def test_open(self):
        for change in (merge, canonical):
            for sign in "&(":
                image = cells((300, 43, 0, 0), (0, 32, 0, 5), (5, ord(sign), 0, 5)) + [1]
                self.assertEqual(image, change(image))
                self.assertIsNot(image, change(image))

    def test_empty(self):
        for change in (merge, canonical):
            self.assertEqual([], change([]))
            self.assertEqual([], change([0, 43, 0]))


class CanonicalTest(unittest.TestCase):
    def test_example(self):
        image = cells((0, 32, 0, 307), (307, 63, 308, 309), (308, 35, 3, 310), (309, 35, 3, 311), (310, 32, 0, 312),
                      (311, 46, 0, 313), (312, 46, 0, 314))
        self.assertEqual(cells((0, 63, 200, 200), (200, 35, 3, 201), (201, 46, 0, 202)), canonical(image))

    def test_order_of_the_three(self):
        source = random.Random(97)
        for _ in range(400):
            image = some_image(source, source.randrange(30))
            self.assertEqual(renumber(merge(thread(image))), canonical(image))

    def test_canonical_again(self):
        source = random.Random(98)
        for _ in range(1500):
            image = canonical(some_image(source, source.randrange(30), source.choice(["#+.?A$)  ", "#= ?AF ", "+?  "])))
            self.assertEqual(image, canonical(image))

    def test_agree(self):
        source = random.Random(99)
        ends = 0
        for _ in range(1000):
            image = some_image(source, source.randrange(30))
            numbers = [source.choice([0, 1, 65, 70]) for _ in range(source.randrange(4))]
            ended, found, steps = outcome(image, numbers, 150)
            ends += ended
            for change in (merge, canonical):
                other = change(image)
                if ended:
                    self.assertEqual((True, found), outcome(other, numbers, steps)[:2], (change, image))
                elif outcome(other, numbers, 3)[0]:
                    self.assertEqual(outcome(other, numbers, 3)[:2], outcome(image, numbers, 10 ** 4)[:2])
        self.assertGreater(ends, 300)


class ChangesTest(unittest.TestCase):
    """Point [98]."""

    def setUp(self):
        self.source = random.Random(100)

    def images(self, many):
        """Closed images with tables of their own nodes alone."""
        while many:
            image = some_image(self.source, self.source.randrange(25))
            if is_closed(image):
                many -= 1
                table = {node[0]: node for node in nodes_of(image)}
                yield image, list(table.values())

    def test_other_free_numbers(self):
        for image, nodes in self.images(500):
            taken = {number for node in nodes for number in (node[0], node[2], node[3])}
            free = sorted(number for number in taken if not 0 <= number < 200)
            others = self.source.sample(list(range(-50, 0)) + list(range(200, 250)), len(free))
            new = dict(zip(free, others))
            renamed = [(new.get(n, n), op, new.get(arg, arg) if op == 63 else arg, new.get(s, s))
                       for n, op, arg, s in nodes]
            self.assertEqual(canonical(image), canonical(cells(*renamed)))

    def test_nops_between(self):
        for image, nodes in self.images(500):
            for at, (number, operation, argument, successor) in enumerate(nodes):
                changed = nodes[:at] + [(number, operation, argument, 777), (777, self.source.choice([32, 37, -1]), 5,
                                                                           successor)] + nodes[at + 1:]
                self.assertEqual(canonical(image), canonical(cells(*changed)))

    def test_copies_of_nodes(self):
        for image, nodes in self.images(500):
            for number, operation, argument, successor in nodes:
                if not 0 <= number < 200:
                    changed = []
                    for n, op, arg, s in nodes + [(777, operation, argument, successor)]:
                        arg = 777 if op == 63 and arg == number and self.source.random() < 0.5 else arg
                        changed.append((n, op, arg, 777 if s == number and self.source.random() < 0.5 else s))
                    self.assertEqual(canonical(image), canonical(cells(*changed)))

    def test_nodes_that_are_not_reachable(self):
        for image, nodes in self.images(500):
            inside = reachable(image)
            calls_all = any(node[1] == 36 and node[0] in inside for node in nodes)
            numbers = [number for number in list(range(-5, 350)) if number not in inside]
            if calls_all:
                numbers = [number for number in numbers if not 0 <= number < 200]
            choice = self.source.choice
            more = [(choice(numbers), choice([43, 38, 63, 70, 32]), 0, choice(numbers)) for _ in range(5)]
            self.assertEqual(canonical(image), canonical(cells(*(more + nodes))))
            less = [node for node in nodes if node[0] in inside]
            self.assertEqual(canonical(image), canonical(cells(*less)))

    def test_translations(self):
        signs = CHARACTERS.replace("&", "").replace("(", "") + "[]{}|:;'=?" * 3
        for _ in range(200):
            text = "".join(self.source.choice(signs) for _ in range(self.source.randrange(20)))
            expected = canonical(translate(codes(text)))
            for first, by in NUMBERS[1:-1]:
                self.assertEqual(expected, canonical(translate(codes(text), first=first, by=by)), text)


if __name__ == "__main__":
    unittest.main()
