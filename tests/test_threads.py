"""What a run can reach, targets, certificates: points [80] to [83], [90] to [93]."""

import random
import unittest

from plinth.machine import run
from plinth.nodes import nodes_of
from plinth.threads import accepts, is_closed, reachable, target
from plinth.trim import certificate, prune, thread
from tests.helpers import CAPITAL, SMALL, cells, outcome, some_image


def chain(signs, start=0, free=200):
    """An image with the nodes of some signs, one behind the other."""
    numbers = [start] + list(range(free, free + len(signs)))
    return [cell for at, sign in enumerate(signs) for cell in (numbers[at], ord(sign), 0, numbers[at + 1])]


class ReachableTest(unittest.TestCase):
    def test_zero(self):
        self.assertEqual([0], reachable([]))
        self.assertEqual([0], reachable([0, 32, 0]))
        self.assertEqual([0], reachable(cells((5, 32, 0, 6))))

    def test_successors_without_nodes(self):
        self.assertEqual([-7, 0], reachable(cells((0, 32, 0, -7))))
        self.assertEqual([0, 200, 201], reachable(chain("++")))

    def test_arguments(self):
        self.assertEqual([0, 5, 300], reachable(cells((0, 63, 300, 5))))
        for sign in "#+=!,.)@a_ ":
            self.assertEqual([0, 5], reachable(cells((0, ord(sign), 300, 5))), sign)

    def test_letters(self):
        self.assertEqual([0, 5, 70], reachable(cells((0, 70, 0, 5))))
        self.assertEqual([0, 5, 70, 900], reachable(cells((0, 70, 0, 5), (70, 41, 0, 900))))
        self.assertEqual([0, 5, 65, 90], reachable(cells((0, 65, 0, 0), (0, 65, 0, 5), (5, 90, 0, 0))))

    def test_call_if_defined(self):
        image = cells((0, 36, 0, 500), (199, 41, 0, 7), (1, 32, 0, 600), (200, 43, 0, 0), (-1, 43, 0, 0))
        self.assertEqual([0, 1, 7, 199, 500, 600], reachable(image))
        self.assertEqual([0, 500], reachable(cells((0, 32, 0, 500), (5, 36, 0, 0), (7, 32, 0, 0))))

    def test_the_last_node_of_a_number_counts(self):
        self.assertEqual([0, 6], reachable(cells((0, 63, 9, 5), (0, 63, 9, 6), (0, 32, 0, 6))))

    def test_cells_left_over(self):
        self.assertEqual([0, 5], reachable(cells((0, 32, 0, 5)) + [5, 32, 0]))

    def test_kinds_of_results(self):
        self.assertIsInstance(reachable([]), list)
        self.assertIs(True, is_closed([]))
        self.assertIs(False, is_closed([0, 38, 0, 0]))


class ClosedTest(unittest.TestCase):
    def test_open(self):
        for sign in "&(":
            code = ord(sign)
            self.assertFalse(is_closed(cells((0, code, 0, 1))))
            self.assertFalse(is_closed(cells((0, 63, 300, 5), (300, code, 0, 1))))
            self.assertFalse(is_closed(cells((0, 70, 0, 5), (70, code, 0, 1))))
            self.assertFalse(is_closed(cells((0, 36, 0, 5), (150, code, 0, 1))))
            self.assertFalse(is_closed(chain("+. " + sign)))

    def test_closed(self):
        self.assertTrue(is_closed(chain("#+-*<~@!=a,^._\"\\?A$) ")))
        for sign in "&(":
            code = ord(sign)
            self.assertTrue(is_closed(cells((0, 32, 0, 5), (6, code, 0, 1))))
            self.assertTrue(is_closed(cells((0, code, 0, 5), (0, 43, 0, 5))))
            self.assertTrue(is_closed(cells((0, 36, 0, 5), (200, code, 0, 1))))
            self.assertTrue(is_closed(cells((0, 35, code, 5)) + [5, code, 0]))


class TargetTest(unittest.TestCase):
    def test_no_nops(self):
        image = cells((0, 43, 0, 5), (5, 32, 0, 6), (6, 37, 9, 7), (7, 0, 0, 300))
        self.assertEqual([0, 300, 300, 300, 300, 8], [target(image, number) for number in (0, 5, 6, 7, 300, 8)])

    def test_another_node(self):
        image = cells((0, 32, 0, 300), (300, -5, 0, 400), (400, 46, 0, 500))
        self.assertEqual([400, 400, 400], [target(image, number) for number in (0, 300, 400)])

    def test_numbers_without_a_node(self):
        for number in (0, -1, 70, 10 ** 50):
            self.assertEqual(number, target([], number))

    def test_every_operation_that_is_none(self):
        operations = [ord(sign) for sign in "#+-*<~@!=,^.&_\"\\?($)" + SMALL + CAPITAL]
        for operation in list(range(-5, 140)) + [10 ** 30]:
            self.assertEqual(0 if operation in operations else 7, target([0, operation, 0, 7], 0), operation)

    def test_rings(self):
        ring = cells((250, 32, 0, 150), (150, 32, 0, -8), (-8, 32, 0, 160), (160, 32, 0, 250), (300, 32, 0, -8))
        for number in (250, 150, -8, 160, 300):
            self.assertEqual(150, target(ring, number))
        free = cells((250, 32, 0, 220), (220, 32, 0, -8), (-8, 32, 0, 300), (300, 32, 0, 250), (5, 32, 0, 250))
        for number in (250, 220, -8, 300, 5):
            self.assertEqual(-8, target(free, number))
        self.assertEqual(9, target([9, 32, 0, 9], 9))

    def test_fixed_numbers_before_a_ring_do_not_count(self):
        image = cells((0, 32, 0, 1), (1, 32, 0, 300), (300, 32, 0, 301), (301, 32, 0, 300))
        for number in (0, 1, 300, 301):
            self.assertEqual(300, target(image, number))

    def test_open_images(self):
        self.assertEqual(5, target(cells((0, 32, 0, 5), (5, 38, 0, 6), (6, 32, 0, 7)), 0))

    def test_long_ways(self):
        image = [cell for number in range(3000) for cell in (number, 32, 0, number + 1)]
        self.assertEqual(3000, target(image, 0))


class AcceptsTest(unittest.TestCase):
    def accepted(self, old, new, *pairs):
        self.assertIs(True, accepts(old, new, list(pairs)), pairs)

    def refused(self, old, new, *pairs):
        self.assertIs(False, accepts(old, new, list(pairs)), pairs)

    def test_the_pair_of_zeros(self):
        self.accepted([], [], (0, 0))
        self.refused([], [])
        self.refused([], [], (5, 5))
        self.accepted([], [], (0, 0), (0, 0), (5, 7))

    def test_first_condition(self):
        nops = cells((0, 32, 0, 5), (5, 37, 0, 6))
        self.accepted(nops, [], (0, 0))
        self.accepted(nops, [], (9, 5), (0, 0), (8, 6), (7, 100))
        self.refused(cells((0, 43, 0, 5)), [], (0, 0))
        self.refused(nops + [6, 43, 0, 9], [], (0, 0))
        self.refused(cells((0, 32, 0, 0)), [], (0, 0))

    def test_second_condition(self):
        old = cells((0, 32, 0, 5), (5, 0, 0, 0))
        new = cells((0, 32, 0, 0))
        self.accepted(old, new, (0, 0), (0, 5))
        self.refused(old, new, (0, 0))
        self.refused(old, new, (0, 5), (0, 7), (0, 0))
        self.refused(cells((0, 43, 0, 5)), new, (0, 0), (0, 5))
        self.refused([], new, (0, 0))
        self.accepted(cells((0, 32, 0, 5)), cells((0, 1, 0, 300)), (0, 0), (300, 5))

    def test_third_condition(self):
        for sign in "+-*<~@!az,^._\"\\)":
            code = ord(sign)
            new = cells((0, code, 1, 300))
            self.accepted(cells((0, code, 2, 5)), new, (0, 0), (300, 5))
            self.accepted(cells((0, 32, 0, 7), (7, code, 1, 5)), new, (0, 0), (300, 5))
            self.refused(cells((0, code, 1, 5)), new, (0, 0))
            self.refused(cells((0, code, 1, 5)), new, (0, 0), (300, 6))
            self.refused(cells((0, 35, 1, 5)), new, (0, 0), (300, 5))
            self.refused(cells((0, 32, 1, 5)), new, (0, 0), (300, 5))
            self.refused([], new, (0, 0), (300, 0))
            self.refused(cells((0, 32, 1, 0)), new, (0, 0), (300, 0))

    def test_cells_and_calls_of_any_number(self):
        for sign in "&(":
            image = cells((0, ord(sign), 0, 5))
            self.refused(image, image, (0, 0), (5, 5))

    def test_arguments(self):
        for sign in "#=":
            new = cells((0, ord(sign), 7, 300))
            self.accepted(cells((0, ord(sign), 7, 5)), new, (0, 0), (300, 5))
            self.refused(cells((0, ord(sign), 8, 5)), new, (0, 0), (300, 5))

    def test_branches(self):
        old, new = cells((0, 63, 7, 5)), cells((0, 63, 300, 301))
        self.accepted(old, new, (0, 0), (301, 5), (300, 7))
        self.refused(old, new, (0, 0), (301, 5))
        self.refused(old, new, (0, 0), (300, 7))
        self.refused(old, new, (0, 0), (301, 5), (300, 8))

    def test_letters(self):
        old, new = cells((0, 70, 7, 5)), cells((0, 70, 8, 300))
        self.accepted(old, new, (0, 0), (300, 5), (70, 70))
        self.refused(old, new, (0, 0), (300, 5))
        self.refused(old, new, (0, 0), (300, 5), (70, 71))
        self.refused(old + cells((70, 43, 0, 9)), new, (0, 0), (300, 5), (70, 70))

    def test_call_if_defined(self):
        body = cells((199, 41, 0, 1))
        old, new = cells((0, 36, 7, 5)), cells((0, 36, 8, 300))
        self.accepted(old, new, (0, 0), (300, 5))
        self.accepted(old + body, new + body, (0, 0), (300, 5), (199, 199), (1, 1))
        self.refused(old + body, new + body, (0, 0), (300, 5))
        self.refused(old + body, new, (0, 0), (300, 5))
        self.refused(old, new + body, (0, 0), (300, 5))
        other = cells((200, 43, 0, 1), (-1, 43, 0, 1))
        self.accepted(old + other, new, (0, 0), (300, 5))

    def test_fourth_condition(self):
        old = cells((0, 32, 0, 7), (7, 35, 2, 8), (8, 32, 0, 9), (9, 35, 3, 10), (10, 32, 0, 11))
        for sign, value in (("+", 5), ("-", -1), ("*", 23), ("<", 1), ("~", 0)):
            folding = old + cells((11, ord(sign), 0, 12))
            new = cells((0, 35, value, 300))
            self.accepted(folding, new, (0, 0), (300, 12))
            self.refused(folding, new, (0, 0))
            self.refused(folding, new, (0, 0), (300, 11))
            self.refused(folding, cells((0, 35, value + 1, 300)), (0, 0), (300, 12))
            self.refused(folding, cells((0, 61, value, 300)), (0, 0), (300, 12))
        for last in ("@", "!", " ", ".", "\\"):
            for value in (5, -1, 23, 1, 0, 2, 3):
                self.refused(old + cells((11, ord(last), 0, 12)), cells((0, 35, value, 300)), (0, 0), (300, 12))
        self.refused(old, cells((0, 35, 5, 300)), (0, 0), (300, 12))
        for sign in "\"=+":
            broken = cells((0, 35, 2, 8), (8, ord(sign), 3, 9), (9, 43, 0, 12))
            for value in (4, 2, 5):
                self.refused(broken, cells((0, 35, value, 300)), (0, 0), (300, 12))
        self.refused(cells((0, 34, 2, 8), (8, 35, 3, 9), (9, 43, 0, 12)), cells((0, 35, 5, 300)), (0, 0), (300, 12))
        self.refused(cells((0, 35, 2, 8), (8, 32, 3, 8)), cells((0, 35, 5, 300)), (0, 0), (300, 12))

    def test_every_pair_counts(self):
        image = cells((0, 43, 0, 5))
        self.accepted(image, image, (5, 5), (0, 0))
        self.refused(image, image, (5, 5), (0, 0), (0, 5))
        self.refused(image, image, (5, 0), (5, 5), (0, 0))

    def test_rules_one_by_one(self):
        """`accepts` beside the words of [91], with pairs left out, changed or added."""
        source = random.Random(91)
        seen = {True: 0, False: 0}
        for _ in range(1500):
            old = some_image(source, source.randrange(14), source.choice(["#+-.?AF$)  ", "##+. ", "#?$=&( "]))
            new = source.choice([old, prune(thread(old)), thread(old), some_image(source, 3)])
            pairs = certificate(old) or [(0, 0)]
            if source.random() < 0.3:
                del pairs[source.randrange(len(pairs))]
            if source.random() < 0.5:
                numbers = reachable(old) + reachable(new)
                pairs.insert(0, (source.choice(numbers), source.choice(numbers)))
            self.assertEqual(literally_accepted(old, new, pairs), accepts(old, new, pairs), (old, new, pairs))
            seen[accepts(old, new, pairs)] += 1
        self.assertGreater(min(seen.values()), 200)

    def test_accepted_images_agree(self):
        """Point [92], its bounds included."""
        old = cells((0, 32, 0, 307), (307, 35, 2, 308), (308, 35, 3, 309), (309, 43, 0, 305), (305, 44, 0, 304),
                    (304, 63, 0, 306), (306, 46, 0, 310))
        new = cells((0, 35, 5, 1), (1, 44, 0, 2), (2, 63, 0, 3), (3, 46, 0, 9))
        self.assertTrue(accepts(old, new, [(0, 0), (1, 305), (2, 304), (3, 306), (9, 310)]))
        for numbers in ([1], [0, 1], [0, 0, 0, 4], [-1], []):
            ended, found, steps = outcome(old, numbers, 1000)
            self.assertEqual((True, found), outcome(new, numbers, steps)[:2])
            self.assertLessEqual(steps, (outcome(new, numbers, steps)[2] + 1) * (3 * 7 + 3))


def literally_accepted(old, new, pairs):
    """Point [91], word by word."""
    old_table = {node[0]: node[1:] for node in nodes_of(old)}
    new_table = {node[0]: node[1:] for node in nodes_of(new)}
    operations = [ord(sign) for sign in "#+-*<~@!=,^.&_\"\\?($)" + SMALL + CAPITAL]

    def passing(number):
        for _ in range(len(old_table) + 1):
            if number not in old_table or old_table[number][0] in operations:
                return number
            number = old_table[number][2]
        return None

    def third(n, o):
        p = passing(o)
        if n not in new_table or new_table[n][0] not in operations or p not in old_table:
            return False
        (x, y, z), (op, arg, following) = new_table[n], old_table[p]
        if x != op or chr(x) in "&(" or (z, following) not in pairs:
            return False
        if chr(x) in "#=" and y != arg or x == 63 and (y, arg) not in pairs:
            return False
        if chr(x).isupper() and (x, x) not in pairs:
            return False
        return x != 36 or all((number in new_table) == (number in old_table)
                              and (number not in new_table or (number, number) in pairs) for number in range(1, 200))

    def fourth(n, o):
        a = old_table.get(passing(o))
        b = old_table.get(passing(a[2])) if a else None
        c = old_table.get(passing(b[2])) if b else None
        if n not in new_table or new_table[n][0] != 35 or not c or (a[0], b[0]) != (35, 35):
            return False
        if c[0] not in (43, 45, 42, 60, 126):
            return False
        value = run(cells((0, 35, a[1], 1), (1, 35, b[1], 2), (2, c[0], 0, 3), (3, 46, 0, 4)), [], fuel=9)[1][0]
        return new_table[n][1] == value and (new_table[n][2], c[2]) in pairs

    def holds(n, o):
        if n not in new_table and passing(o) is not None and passing(o) not in old_table:
            return True
        if n in new_table and new_table[n][0] not in operations and o in old_table:
            if old_table[o][0] not in operations and (new_table[n][2], old_table[o][2]) in pairs:
                return True
        return third(n, o) or fourth(n, o)

    return (0, 0) in pairs and all(holds(n, o) for n, o in pairs)


class CertificateTest(unittest.TestCase):
    def test_closed(self):
        source = random.Random(93)
        for _ in range(1500):
            image = some_image(source, source.randrange(16))
            pairs = certificate(image)
            self.assertTrue(accepts(image, prune(thread(image)), pairs), (image, pairs))
            self.assertEqual(len(pairs), len(set(pairs)))
            source.shuffle(pairs)
            self.assertTrue(accepts(image, prune(thread(image)), pairs + pairs[:3]))
            # Nothing else than the pairs of a certificate makes it accepted.
            self.assertFalse(accepts(image, prune(thread(image)), [pair for pair in pairs if pair != (0, 0)]))

    def test_rings(self):
        ring = cells((0, 32, 0, 300), (300, 32, 0, 301), (301, 32, 0, 300))
        self.assertEqual(cells((0, 32, 0, 300), (300, 32, 0, 300)), prune(thread(ring)))
        self.assertTrue(accepts(ring, prune(thread(ring)), certificate(ring)))

    def test_kinds_of_results(self):
        self.assertEqual([(0, 0)], certificate([]))
        pairs = certificate(cells((0, 43, 0, 5)))
        self.assertIsInstance(pairs, list)
        self.assertEqual([(0, 0), (5, 5)], sorted(pairs))
        self.assertIsInstance(pairs[0], tuple)

    def test_open(self):
        for sign in "&(":
            self.assertEqual([], certificate(cells((0, ord(sign), 0, 5))))
            self.assertEqual([], certificate(cells((0, 32, 0, 5), (5, ord(sign), 0, 5))))


if __name__ == "__main__":
    unittest.main()
