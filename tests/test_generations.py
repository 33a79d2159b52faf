"""Generations: points [140] to [143]."""

import unittest

from plinth.build import Tower
from plinth.errors import BadFuel, NotText
from plinth.generations import child, generations, settle
from plinth.machine import run
from plinth.rungs import rung_text
from plinth.translate import translate
from tests.helpers import NUMBERS, cells, codes, counter

PLAIN = rung_text("plain")
TURNED = rung_text("turned")
LOOP = [0, 32, 0, 0]
COPY = [0, 44, 0, 1, 1, 34, 0, 2, 2, 35, 0, 3, 3, 60, 0, 4, 4, 63, 5, 9, 5, 46, 0, 0]


def writer(numbers):
    """An image that writes the numbers."""
    nodes = []
    for at, number in enumerate(numbers):
        nodes += [(2 * at, 35, number, 2 * at + 1), (2 * at + 1, 46, 0, 2 * at + 2)]
    return cells(*nodes)


def own_cells(number, sign, other):
    """An image that writes its own cells, but as cell 2 what the sign makes of
    the other number and of cell 2, which is the number."""
    program = [("#", number), ("=", 115), ("#", 0), (".", 0), ("#", 35), (".", 0), ("#", other), ("s", 0), (sign, 0),
               (".", 0), ("#", 3), ("=", 114)]
    loop = len(program)
    program += [("r", 0), ("&", 0), (".", 0), ("r", 0), ("#", 1), ("+", 0), ("=", 114), ("r", 0)]
    size = 4 * (len(program) + 3)
    program += [("#", size), ("<", 0)]
    nodes = [(at, ord(sign), argument, at + 1) for at, (sign, argument) in enumerate(program)]
    return cells(*nodes, (len(nodes), 63, 999, loop))


SELF = own_cells(5, "+", 0)
# Each of the two writes the other one.
PAIR = [own_cells(0, "-", 1), own_cells(1, "-", 1)]


def grown():
    tower = Tower()
    tower.finish()
    return tower


class ChildTest(unittest.TestCase):
    def test_children(self):
        self.assertEqual([5, 6], child(writer([5, 6]), ""))
        self.assertEqual(codes("ab\n"), child(COPY, "ab\n"))
        self.assertEqual([], child([], "ab"))
        self.assertIsInstance(child([], ""), list)

    def test_fuel(self):
        steps = run(COPY, codes("ab"), fuel=100)[2]
        self.assertEqual(codes("ab"), child(COPY, "ab", fuel=steps))
        self.assertIsNone(child(COPY, "ab", fuel=steps - 1))
        self.assertIsNone(child(LOOP, ""))
        self.assertEqual([], child(counter(100000), ""))
        self.assertIsNone(child(counter(100001), ""))
        self.assertEqual([], child([], "", fuel=0))

    def test_errors(self):
        for call in (child, settle, lambda b, t, **more: generations(b, t, 0, **more),
                     lambda b, t, **more: settle(b, t, most=0, **more),
                     lambda b, t, **more: generations(b, t, 3, **more)):
            for text in ("\t", "a%", chr(955)):
                with self.assertRaises(NotText):
                    call(COPY, text, fuel=-1)
            for binary in (COPY, LOOP, []):
                with self.assertRaises(BadFuel):
                    call(binary, "a", fuel=-1)


class GenerationsTest(unittest.TestCase):
    def test_count(self):
        binary = writer(writer([7]))
        expected = [binary, writer([7]), [7], []]
        for count in range(4):
            self.assertEqual(expected[:count + 1], generations(binary, "", count))
        self.assertEqual(expected + [[], []], generations(binary, "x", 5))

    def test_sequences_that_end(self):
        self.assertEqual([LOOP], generations(LOOP, "", 5))
        binary = writer(LOOP)
        self.assertEqual([binary, LOOP], generations(binary, "", 5))
        self.assertEqual([binary], generations(binary, "", 0))
        self.assertEqual([binary], generations(binary, "", 5, fuel=7))
        self.assertEqual([binary, LOOP], generations(binary, "", 5, fuel=8))
        self.assertEqual([counter(100000), []], generations(counter(100000), "", 1))
        self.assertEqual([counter(100001)], generations(counter(100001), "", 1))

    def test_generation_zero_is_a_copy(self):
        binary = writer([5])
        found = generations(binary, "", 0)
        self.assertIsNot(binary, found[0])
        self.assertEqual(len(found) + 2, len({id(row) for row in generations(binary, "", 2)}))


class SettleTest(unittest.TestCase):
    def test_settled(self):
        self.assertEqual((0, []), settle([], "ab"))
        self.assertEqual((1, []), settle(counter(100000), ""))
        self.assertIsNone(settle(counter(100001), ""))
        binary = writer(writer([7, 7, 7, 7]))
        self.assertEqual((3, []), settle(binary, ""))
        self.assertEqual((4, []), settle(writer(binary), ""))
        self.assertIsNone(settle(writer(writer(binary)), ""))
        self.assertEqual((1, []), settle([7], "ab"))
        binary = writer(writer([7]))
        self.assertEqual((3, []), settle(binary, ""))
        self.assertEqual((3, []), settle(binary, "", most=3))
        self.assertIsNone(settle(binary, "", most=2))
        self.assertIsNone(settle(binary, "", most=0))

    def test_binary_that_writes_itself(self):
        self.assertEqual((0, SELF), settle(SELF, "ab"))
        self.assertEqual((0, SELF), settle(SELF, "ab", most=0))
        self.assertIsNot(SELF, settle(SELF, "", most=0)[1])
        self.assertEqual([SELF] * 4, generations(SELF, "", 3))

    def test_sequences_that_end(self):
        self.assertIsNone(settle(LOOP, ""))
        self.assertIsNone(settle(writer(LOOP), "", most=10))

    def test_sequences_that_do_neither(self):
        # The cells of the two images are the text, in which each writes the other.
        one, other = PAIR
        self.assertEqual([one, other, one, other, one], generations(one, "", 4))
        self.assertIsNone(settle(one, "", most=20))
        self.assertIsNone(settle(other, ""))


class CompilersTest(unittest.TestCase):
    """Point [143]."""

    def test_all_choices_of_numbers(self):
        tower = grown()
        binaries = [tower.binary("second"), tower.binary("plain"), tower.binary("turned")]
        binaries += [translate(codes(text), first=first, by=by)
                     for text in (PLAIN, TURNED) for first, by in NUMBERS[2:6]]
        for binary in binaries:
            plain = generations(binary, PLAIN, 3)
            self.assertEqual([tower.binary("plain")] * 2, plain[2:])
            turned = generations(binary, TURNED, 3)
            self.assertEqual([translate(codes(TURNED), first=-1, by=-1)] * 2, turned[2:])
            index, settled = settle(binary, PLAIN)
            self.assertLessEqual(index, 2)
            self.assertEqual(tower.binary("plain"), settled)

    def test_first_settled_generation(self):
        tower = grown()
        self.assertEqual((0, tower.binary("plain")), settle(tower.binary("plain"), PLAIN))
        self.assertEqual((1, tower.binary("plain")), settle(tower.binary("second"), PLAIN))
        self.assertEqual((2, tower.binary("plain")), settle(tower.binary("turned"), PLAIN, most=2))
        self.assertIsNone(settle(tower.binary("turned"), PLAIN, most=1))
        turned = translate(codes(TURNED), first=-1, by=-1)
        self.assertEqual((2, turned), settle(tower.binary("plain"), TURNED))
        self.assertEqual((1, turned), settle(tower.binary("turned"), TURNED))


if __name__ == "__main__":
    unittest.main()
