"""Double compilation and cross tables: points [144] to [146]."""

import unittest

from plinth.build import Tower
from plinth.errors import BadFuel, NotText
from plinth.generations import child
from plinth.machine import run
from plinth.rungs import rung_text
from plinth.translate import translate
from plinth.twins import cross, double, second_cross
from tests.helpers import cells, codes, counter

PLAIN = rung_text("plain")
TURNED = rung_text("turned")
LOOP = [0, 32, 0, 0]
COPY = [0, 44, 0, 1, 1, 34, 0, 2, 2, 35, 0, 3, 3, 60, 0, 4, 4, 63, 5, 9, 5, 46, 0, 0]


def writer(numbers):
    """An image that writes the numbers."""
    nodes = []
    for at, number in enumerate(numbers):
        nodes += [(2 * at, 35, number, 2 * at + 1), (2 * at + 1, 46, 0, 2 * at + 2)]
    return cells(*nodes)


def grown():
    tower = Tower()
    tower.finish()
    return tower


class DoubleTest(unittest.TestCase):
    def test_stuck(self):
        self.assertEqual(("stuck", 1), double([], LOOP, ""))
        self.assertEqual(("stuck", 2), double([], writer(LOOP), ""))
        self.assertEqual(("stuck", 2), double(LOOP, writer(LOOP), ""))

    def test_fuel(self):
        second = writer(writer([7]))
        early, late = run(second, [], fuel=999)[2], run(writer([7]), [], fuel=999)[2]
        self.assertGreater(early, late)
        self.assertEqual(("stuck", 1), double([7], second, "", fuel=early - 1))
        self.assertEqual(("same",), double([7], second, "", fuel=early))
        # This one writes an image that counts from 30 down to 0.
        second = writer(cells((0, 35, 30, 1), (1, 35, 1, 2), (2, 45, 0, 3), (3, 34, 0, 4), (4, 63, 9, 1)))
        steps = run(second, [], fuel=999)[2]
        self.assertEqual(("stuck", 2), double([], second, "", fuel=steps))

    def test_same(self):
        self.assertEqual(("same",), double([7], writer(writer([7])), "abc"))
        self.assertEqual(("same",), double([], [], ""))

    def test_apart(self):
        second = writer(writer([7, 8, 9]))
        for suspect, place in (([7, 8, 8], 2), ([6, 8, 9], 0), ([7, 9, 8], 1), ([7, 8], 2), ([], 0), ([7, 8, 9, 0], 3),
                               ([7, 8, 9, 9, 9], 3), ([1], 0)):
            self.assertEqual(("apart", place), double(suspect, second, ""))

    def test_the_text_is_the_input(self):
        # COPY writes the codes of the text, here an image of the one node
        # (32, 32, 32, 32) or (10, 46, 46, 10), neither of which makes a step.
        for text in ("    ", "\n..\n", "#", ""):
            self.assertEqual(("same",), double([], COPY, text))
        # A node 0 that writes 0 takes the input of the text alone.
        second = cells((0, 44, 0, 1), (1, 46, 0, 2), (2, 35, 46, 3), (3, 46, 0, 4))
        self.assertEqual([65, 46], child(second, "A"))
        self.assertEqual(("same",), double([], second, "A"))

    def test_errors(self):
        for text in ("\t", "%", chr(300)):
            with self.assertRaises(NotText):
                double([], LOOP, text, fuel=-1)
        for second in (LOOP, [], COPY):
            with self.assertRaises(BadFuel):
                double([], second, "a", fuel=-1)


    def test_default_fuel(self):
        for call, limit in ((cross, [[[]], [None]]), (second_cross, [[[]], [None]])):
            self.assertEqual(limit, call([counter(100000), counter(100001)], [""]))
        self.assertEqual(("same",), double([], counter(100000), ""))
        self.assertEqual(("stuck", 1), double([], counter(100001), ""))


class CompilersTest(unittest.TestCase):
    """Point [145]."""

    def setUp(self):
        tower = grown()
        self.plain = tower.binary("plain")
        self.seconds = [self.plain, tower.binary("second"), tower.binary("turned"),
                        translate(codes(TURNED), first=-7, by=-3), translate(codes(PLAIN), first=900, by=5)]

    def test_plain_alone(self):
        for second in self.seconds:
            self.assertEqual(("same",), double(self.plain, second, PLAIN))

    def test_other_suspects(self):
        for second in self.seconds[1:4]:
            for at in (0, 7, len(self.plain) - 1):
                suspect = self.plain[:at] + [self.plain[at] + 1] + self.plain[at + 1:]
                self.assertEqual(("apart", at), double(suspect, second, PLAIN))
            self.assertEqual(("apart", len(self.plain) - 3), double(self.plain[:-3], second, PLAIN))
            self.assertEqual(("apart", len(self.plain)), double(self.plain + LOOP, second, PLAIN))
            self.assertEqual(("apart", 1), double([0, 38], second, PLAIN))
            self.assertEqual(("apart", 0), double([], second, PLAIN))

    def test_fuel(self):
        self.assertEqual(("stuck", 1), double(self.plain, self.plain, PLAIN, fuel=1000))


class TablesTest(unittest.TestCase):
    def test_children(self):
        binaries = [COPY, LOOP, [], writer(writer([7]))]
        texts = ["ab", "", "#"]
        self.assertEqual([[codes("ab"), [], codes("#")], [None] * 3, [[]] * 3, [writer([7])] * 3],
                         cross(binaries, texts))
        self.assertEqual([[child(binary, text) for text in texts] for binary in binaries], cross(binaries, texts))
        self.assertEqual([[[], [], []], [None] * 3, [[]] * 3, [[7]] * 3], second_cross(binaries, texts))
        self.assertEqual([[None], [None]], second_cross([writer(LOOP), LOOP], ["a"]))

    def test_without_binaries_or_texts(self):
        for call in (cross, second_cross):
            self.assertEqual([], call([], []))
            self.assertEqual([], call([], ["a", "b"]))
            self.assertEqual([[], []], call([COPY, LOOP], []))

    def test_fuel(self):
        steps = run(COPY, codes("ab"), fuel=99)[2]
        self.assertEqual([[codes("a"), codes("ab")]], cross([COPY], ["a", "ab"], fuel=steps))
        self.assertEqual([[codes("a"), None]], cross([COPY], ["a", "ab"], fuel=steps - 1))
        self.assertEqual([[[], None]], second_cross([COPY], ["a", "ab"], fuel=steps - 1))

    def test_errors(self):
        for call in (cross, second_cross):
            for binaries in ([], [COPY], [LOOP, []]):
                for texts in (["a", "\t"], ["%"]):
                    with self.assertRaises(NotText):
                        call(binaries, texts, fuel=-1)
                for texts in ([], ["a"]):
                    with self.assertRaises(BadFuel):
                        call(binaries, texts, fuel=-1)

    def test_rows_are_apart(self):
        for table in (cross([[], []], ["a", "b"]), second_cross([[], []], ["a", "b"])):
            table[0][0].append(5)
            table[0].append([6])
            self.assertEqual([[[5], [], [6]], [[], []]], table)

    def test_compilers(self):
        """The end of [146]."""
        tower = grown()
        binaries = [tower.binary("second"), tower.binary("plain"), tower.binary("turned"),
                    translate(codes(TURNED), first=700, by=2)]
        expected = [tower.binary("plain"), translate(codes(TURNED), first=-1, by=-1)]
        self.assertEqual([expected] * 4, second_cross(binaries, [PLAIN, TURNED]))
        table = cross(binaries, [PLAIN, TURNED])
        self.assertEqual(table[0], table[1])
        self.assertNotEqual(table[0], table[2])


if __name__ == "__main__":
    unittest.main()
