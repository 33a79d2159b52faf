"""Libraries: points [207] to [212]."""

import random
import unittest

from plinth.errors import BadName, NoEntry, NotLinkable
from plinth.link import link
from plinth.machine import run
from plinth.modules import Library, calls, defines, is_silent
from plinth.translate import translate
from tests.helpers import cells, codes
from tests.test_link import LINKABLE, NOT_LINKABLE, agree
from tests.test_shelf import BAD_NAMES

LAST = (300, 41, 0, 301)
SILENT = [
    cells((0, 41, 0, 300)), cells((0, 32, 0, 300), LAST), cells((0, 32, 0, 400), (65, 35, 1, 400), (400, -5, 7, 300),
                                                                LAST),
    cells((300, 35, 0, 300), (0, 35, 0, 0), (0, 32, 0, 300), LAST), cells((0, 37, 0, 300), LAST),
    cells((-5, 46, 0, 0), (0, 32, 0, 300), LAST),
]
NOT_SILENT = [
    # An operation, a ring, a way to a number without a node or to another node.
    cells((0, 35, 0, 300), LAST), cells((0, 32, 0, 400), (400, 46, 0, 300), LAST), cells((0, 41, 0, 300), LAST),
    cells((0, 32, 0, 0), LAST), cells((0, 32, 0, 400), (400, 32, 0, 0), LAST), cells((0, 32, 0, 400), LAST),
    cells(LAST),
    cells((0, 32, 0, 302), LAST), cells((65, 41, 0, 300)), cells((0, 32, 0, 300), (0, 43, 0, 300), LAST),
    cells((0, 32, 0, 400), (400, 41, 0, 500), LAST),
]


def image(text):
    return translate(codes(text))


def letters(text):
    return [ord(letter) for letter in text]


def library(*texts):
    """A library of the translations of texts, with the names `a`, `b` and so on."""
    found = Library()
    for at, text in enumerate(texts):
        found.add("abcdefghijkl"[at], image(text))
    return found


class LettersTest(unittest.TestCase):
    def test_defines_and_calls(self):
        self.assertEqual(letters("F"), defines(image(":F1+;")))
        self.assertEqual([], calls(image(":F1+;")))
        self.assertEqual(letters("F"), calls(image("2F.")))
        self.assertEqual([], defines(image("2F.")))
        self.assertEqual(letters("ABZ"), defines(image(":Z;:A;:B;:A;")))
        self.assertEqual(letters("AZ"), calls(image("ZAZ:F5A;")))
        self.assertEqual(([], []), (defines([]), calls([])))

    def test_any_list_of_nodes(self):
        # Nodes that do not count are nodes, too; cells that are left over are none.
        nodes = cells((65, 35, 67, 68), (65, 32, 66, 1), (5, 90, 0, 70), (5, 32, 0, 0), (64, 64, 0, 0), (91, 91, 0, 0))
        self.assertEqual(letters("A"), defines(nodes + [66, 67, 68]))
        self.assertEqual(letters("Z"), calls(nodes + [66, 67, 68]))

    def test_silent(self):
        for one in SILENT:
            self.assertIs(True, is_silent(one), one)
        for text in ("", ":F1+;", ":F1+;:G2.;", " \n:A{1[2.|3]};"):
            self.assertIs(True, is_silent(image(text)), text)

    def test_not_silent(self):
        for one in NOT_SILENT:
            self.assertIs(False, is_silent(one), one)
        for one in NOT_LINKABLE:
            self.assertIs(False, is_silent(one), one)
        for text in ("1", "F", "{}", "[]", ":F1+;1", "1:F1+;", ":F1;:G&;", ":F1;:G(;", ":f1;"):
            self.assertIs(False, is_silent(image(text)), text)
        # A path over other nops is a silent one.
        self.assertIs(True, is_silent(cells((0, 999, 0, -1), (-1, 0, 0, 300), LAST)))


class LibraryTest(unittest.TestCase):
    def test_new(self):
        self.assertEqual((0, []), (len(Library()), list(Library())))

    def test_add(self):
        found = Library()
        self.assertIsNone(found.add("zebra", image(":F1;")))
        self.assertIsNone(found.add("abcdefghijkl", image(":G1;")))
        self.assertIsNone(found.add("a", image("")))
        self.assertEqual((3, ["zebra", "abcdefghijkl", "a"]), (len(found), list(found)))
        self.assertEqual([image(":F1;"), image(":G1;"), image("")], [found.image(name) for name in found])
        self.assertIsNone(found.add("zebra", image(":H1;")))
        self.assertEqual((3, ["zebra", "abcdefghijkl", "a"]), (len(found), list(found)))
        self.assertEqual([image(":H1;"), image(":G1;"), image("")], [found.image(name) for name in found])

    def test_errors_of_add(self):
        found = library(":F1;")
        for bad in NOT_SILENT + NOT_LINKABLE:
            for name in ("a", "b"):
                with self.assertRaises(NotLinkable) as caught:
                    found.add(name, bad)
                self.assertEqual(0, caught.exception.at)
        for name in BAD_NAMES:
            for one in (NOT_SILENT[0], NOT_LINKABLE[0], image("")):
                with self.assertRaises(BadName):
                    found.add(name, one)
        self.assertEqual((["a"], image(":F1;")), (list(found), found.image("a")))

    def test_no_entry(self):
        for name in ["b", "aa"] + BAD_NAMES:
            with self.assertRaises(NoEntry) as caught:
                library(":F1;").image(name)
            self.assertEqual(name, caught.exception.name)

    def test_copies(self):
        found, one = Library(), image(":F1;")
        found.add("a", one)
        one[0] = 7
        self.assertEqual(image(":F1;"), found.image("a"))
        found.image("a").clear()
        self.assertEqual(image(":F1;"), found.image("a"))
        found.joined(image("F")).clear()
        found.needed(image("F")).append("b")
        self.assertEqual((["a"], image(":F1;")), (list(found), found.image("a")))


class NeededTest(unittest.TestCase):
    def test_needed(self):
        found = library(":F1;", ":G2;", ":H3;")
        for text, names in (("", ""), ("1", ""), ("F", "a"), ("G", "b"), ("HF", "ac"), ("HGF", "abc"), ("FF", "a"),
                            ("Q", ""), ("[H]", "c"), (":A G;", "b")):
            self.assertEqual(list(names), found.needed(image(text)), text)
        self.assertEqual([], Library().needed(image("F$")))

    def test_through_several_modules(self):
        found = library(":F1G;", ":K5;", ":G2H;", ":H3F;", ":I4K;")
        for text, names in (("F", "acd"), ("G", "acd"), ("I", "be"), ("K", "b"), ("HI", "abcde")):
            self.assertEqual(list(names), found.needed(image(text)), text)

    def test_letters_that_the_image_defines_itself(self):
        found = library(":F1G;", ":G2H;", ":H3;")
        self.assertEqual([], found.needed(image(":F;F")))
        self.assertEqual(["a"], found.needed(image(":G;F")))
        self.assertEqual(["a", "b"], found.needed(image("F:H;")))
        # What a module defines does not keep it from needing others.
        found = library(":F1;:G2;", ":G3;", ":H G;")
        self.assertEqual(["b"], found.needed(image("G")))
        self.assertEqual(["a"], found.needed(image("F")))
        self.assertEqual(["b", "c"], found.needed(image("H")))

    def test_the_last_module_serves(self):
        found = library(":F1;", ":F2G;", ":G4;", ":F3;")
        self.assertEqual(["d"], found.needed(image("F")))
        found.add("d", image(":X;"))
        self.assertEqual(["b", "c"], found.needed(image("F")))
        found.add("a", image(":G;"))
        self.assertEqual(["b", "c"], found.needed(image("F")))

    def test_calls_of_numbers(self):
        found = library(":F1;", ":G2;", ":H3$;")
        self.assertEqual(["a", "b", "c"], found.needed(image("$")))
        self.assertEqual(["a", "b", "c"], found.needed(image("H")))
        self.assertEqual(["a", "b", "c"], found.needed(image(":H;[$]")))
        self.assertEqual([], found.needed(image(":H;H")))
        self.assertEqual(["a"], found.needed(image("F")))

    def test_any_list_of_nodes(self):
        found = library(":F1;", ":G2;")
        self.assertEqual([], found.needed([]))
        self.assertEqual(["a"], found.needed([5, 70, 0, 6, 5, 32, 0, 0, 71]))
        self.assertEqual([], found.needed([70, 32, 0, 0, 5, 70, 0, 6]))
        self.assertEqual(["a", "b"], found.needed([5, 36, 0, 6, 5, 38, 0, 1]))


class MissingTest(unittest.TestCase):
    def test_missing(self):
        found = library(":F1G;", ":G2H;", ":K3QZA;", ":L$;")
        for text, expected in (("", ""), ("F", "H"), ("G", "H"), (":H;F", ""), ("K", "AQZ"), (":Q;K", "AZ"),
                               ("XAX", "AX"), ("$", "AHQZ"), ("LB", "ABHQZ"), (":G;F", ""), ("KF", "AHQZ")):
            self.assertEqual(letters(expected), found.missing(image(text)), text)
        self.assertEqual(letters("AB"), Library().missing(image("BAC:C;")))

    def test_a_letter_of_a_module_that_is_not_needed(self):
        # The module `b` defines the letter, but the image defines it, too.
        found = library(":F1G;", ":G2;")
        self.assertEqual([], found.missing(image("F")))
        found.add("b", image(":H;"))
        self.assertEqual(letters("G"), found.missing(image("F")))
        self.assertEqual([], found.missing([5, 71, 0, 6, 71, 32, 0, 0]))
        self.assertEqual(letters("G"), found.missing([5, 71, 0, 6, 5, 32, 0, 0, 71, 71]))


class JoinedTest(unittest.TestCase):
    def test_joined(self):
        found = library(":F1+;", ":G2;", ":H3F;")
        self.assertEqual(link([image(":F1+;"), image("2F.")]), found.joined(image("2F.")))
        self.assertEqual([3], run(found.joined(image("2F.")), [], fuel=100)[1])
        self.assertEqual(link([image("2.")]), found.joined(image("2.")))
        self.assertEqual(link([image(":F1+;"), image(":H3F;"), image("H.")]), found.joined(image("H.")))
        self.assertEqual([4], run(found.joined(image("H.")), [], fuel=100)[1])
        self.assertEqual(link([image("F")]), Library().joined(image("F")))

    def test_not_linkable(self):
        for bad in NOT_LINKABLE:
            for found in (Library(), library(":F1;", ":G2;")):
                with self.assertRaises(NotLinkable) as caught:
                    found.joined(bad)
                self.assertEqual(0, caught.exception.at)
        # The image is not linkable, wherever it would stand in the link.
        with self.assertRaises(NotLinkable) as caught:
            library(":F1;", ":G2;").joined(image("F$&"))
        self.assertEqual(0, caught.exception.at)
        for one in LINKABLE:
            library(":F1;").joined(one)

    def test_beside_the_link_of_all(self):
        source = random.Random(211)
        ends = 0
        for _ in range(150):
            texts = [self.some_module(source) for _ in range(source.randrange(6))]
            found = library(*texts)
            text = "".join(source.choice(["F", "G", "H", "1.", "2", "+.", ":G4;", "'F$", "a."]) for _ in range(5))
            whole = link([image(part) for part in texts] + [image(text)])
            joined = found.joined(image(text))
            self.assertEqual(link([found.image(name) for name in found.needed(image(text))] + [image(text)]), joined)
            ends += agree(self, whole, joined, [3, 4])
            agree(self, joined, whole, [3, 4])
        self.assertGreater(ends, 50)

    @staticmethod
    def some_module(source):
        text = ""
        for _ in range(source.randrange(1, 4)):
            body = "".join(source.choice(["H", "K", "1.", "2", "+.", "'F$", "3=a"]) for _ in range(3))
            text += ":" + source.choice("FGHK") + body + ";"
        return text


if __name__ == "__main__":
    unittest.main()
