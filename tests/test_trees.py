"""Trees, their texts, and reading them: points [68] to [71]."""

import random
import unittest

from plinth import errors
from plinth.errors import Malformed
from plinth.printing import write
from plinth.reading import read
from plinth.trees import defined_in, depth_of, size_of
from tests.helpers import CAPITAL, CHARACTERS, SIGNS, SMALL, nested, some_tree


class MeasuresTest(unittest.TestCase):
    def test_depth(self):
        for tree in ([], [("num", 1), ("op", 43), ("put", 97)]):
            self.assertEqual(1, depth_of(tree))
        for kind in ("when", "loop", "choose"):
            for depth in (1, 2, 3, 30, 31):
                self.assertEqual(depth, depth_of(nested(depth, kind)))
        self.assertEqual(2, depth_of([("def", 70, [])]))
        self.assertEqual(4, depth_of([("when", []), ("def", 70, [("loop", [("when", [])])]), ("loop", [])]))
        self.assertEqual(3, depth_of([("choose", [("when", [])], [])]))
        self.assertEqual(3, depth_of([("choose", [], [("when", [])])]))

    def test_size(self):
        self.assertEqual(0, size_of([]))
        self.assertEqual(3, size_of([("num", 1), ("op", 43), ("put", 97)]))
        self.assertEqual(29, size_of(nested(30)))
        self.assertEqual(1, size_of([("choose", [], [])]))
        self.assertEqual(9, size_of([("choose", [("num", 1)], [("num", 2), ("loop", [("op", 97)])]),
                                     ("def", 70, [("when", [("num", 3)])]), ("put", 98)]))

    def test_defined(self):
        self.assertEqual([], defined_in([]))
        self.assertEqual([], defined_in([("num", 70), ("op", 70), ("loop", [("op", 71)])]))
        self.assertEqual([65, 70, 90], defined_in([("def", code, []) for code in (70, 90, 65, 70, 65)]))
        self.assertEqual([90], defined_in([("op", 65), ("def", 90, [("op", 66), ("num", 1)])]))


class WriteTest(unittest.TestCase):
    def check(self, text, *items):
        self.assertEqual(text, write(list(items)))
        self.assertEqual(list(items), read(text))

    def test_single_items(self):
        self.check("")
        self.check("0", ("num", 0))
        self.check("120", ("num", 120))
        for sign in SIGNS + SMALL + CAPITAL:
            self.check(sign, ("op", ord(sign)))
        for letter in SMALL:
            self.check("=" + letter, ("put", ord(letter)))
        for letter in CAPITAL:
            self.check(":" + letter + "+;", ("def", ord(letter), [("op", 43)]))
        self.check("[+]", ("when", [("op", 43)]))
        self.check("[+|-]", ("choose", [("op", 43)], [("op", 45)]))
        self.check("{+}", ("loop", [("op", 43)]))

    def test_empty_lists(self):
        self.check("[]", ("when", []))
        self.check("[|]", ("choose", [], []))
        self.check("[+|]", ("choose", [("op", 43)], []))
        self.check("[|+]", ("choose", [], [("op", 43)]))
        self.check("{}", ("loop", []))
        self.check(":F;", ("def", 70, []))

    def test_numbers_next_to_each_other(self):
        self.check("1 2", ("num", 1), ("num", 2))
        self.check("0 0 12 3", ("num", 0), ("num", 0), ("num", 12), ("num", 3))
        self.check("1+2", ("num", 1), ("op", 43), ("num", 2))
        self.check("1=a2", ("num", 1), ("put", 97), ("num", 2))
        self.check("1[2]3{4}5", ("num", 1), ("when", [("num", 2)]), ("num", 3), ("loop", [("num", 4)]), ("num", 5))
        self.check("[1 2|3 4]5 6", ("choose", [("num", 1), ("num", 2)], [("num", 3), ("num", 4)]), ("num", 5),
                   ("num", 6))
        self.check("1:F2;3", ("num", 1), ("def", 70, [("num", 2)]), ("num", 3))

    def test_long_numbers(self):
        self.check("9" * 18 + " 1" + "0" * 17, ("num", 10 ** 18 - 1), ("num", 10 ** 17))

    def test_nested_lists(self):
        for kind, left, right in (("when", "[", "]"), ("loop", "{", "}")):
            self.check(left * 29 + right * 29, nested(30, kind)[0])
        self.check(write(nested(30, "choose")), nested(30, "choose")[0])
        self.check("[|[[|]|]]", ("choose", [], [("choose", [("choose", [], [])], [])]))
        self.check(":F" + "{" * 28 + "}" * 28 + ";", ("def", 70, nested(29, "loop")))

    def test_reading_what_was_written(self):
        source = random.Random(71)
        sizes = 0
        for _ in range(500):
            tree = some_tree(source)
            sizes += size_of(tree)
            self.check(write(tree), *tree)
        self.assertGreater(sizes, 1000)


class ReadTest(unittest.TestCase):
    def check(self, text, *items):
        self.assertEqual(list(items), read(text), text)

    def test_kinds_of_results(self):
        tree = read("1[2|3]:F4;")
        self.assertIsInstance(tree, list)
        self.assertIsInstance(tree[0], tuple)
        self.assertIsInstance(tree[1], tuple)
        self.assertIsInstance(tree[1][1], list)
        self.assertIsInstance(tree[2][2], list)

    def test_blanks(self):
        self.check("  \n ")
        self.check(" 1 \n 2 ", ("num", 1), ("num", 2))
        self.check("1\n2", ("num", 1), ("num", 2))
        self.check(" [ + | \n 3 ] ", ("choose", [("op", 43)], [("num", 3)]))
        self.check(":F 1 2 ; { }", ("def", 70, [("num", 1), ("num", 2)]), ("loop", []))

    def test_leading_zeros(self):
        self.check("007 000 0", ("num", 7), ("num", 0), ("num", 0))
        self.check("0" * 40 + "9" * 18, ("num", 10 ** 18 - 1))
        self.check("0" * 40, ("num", 0))

    def test_quote(self):
        for character in CHARACTERS:
            self.check("'" + character, ("num", ord(character)))
            self.check("1'" + character + "2", ("num", 1), ("num", ord(character)), ("num", 2))
        self.check("['[|']]", ("choose", [("num", 91)], [("num", 93)]))
        self.check("'''1 '2", ("num", 39), ("num", 49), ("num", 50))

    def test_numerals_beside_other_signs(self):
        self.check("12a3", ("num", 12), ("op", 97), ("num", 3))
        self.check("12'34", ("num", 12), ("num", 51), ("num", 4))
        self.check("12:F3;4", ("num", 12), ("def", 70, [("num", 3)]), ("num", 4))

    def test_deepest_lists(self):
        for text in ("[" * 29 + "]" * 29, "{" * 29 + "}" * 29, "[" * 29 + "|" + "]" * 29,
                     "[|" * 29 + "]" * 29, ":F" + "[" * 28 + "]" * 28 + ";"):
            self.assertEqual(30, depth_of(read(text)))
            self.assertEqual(text, write(read(text)))


class MalformedTest(unittest.TestCase):
    def check(self, text, at):
        with self.assertRaises(Malformed, msg=text) as caught:
            read(text)
        self.assertEqual(at, caught.exception.at, text)

    def test_class_of_the_error(self):
        with self.assertRaises(ValueError) as caught:
            read("]")
        classes = [value for value in vars(errors).values() if isinstance(value, type)]
        above = {kind for kind in classes if isinstance(caught.exception, kind)}
        self.assertEqual({errors.PlinthError, Malformed}, above)

    def test_other_signs(self):
        good = set(SIGNS + SMALL + CAPITAL + "0123456789'=[]{}|:; \n")
        others = [chr(code) for code in range(0, 300) if chr(code) not in good]
        self.assertIn("%", others)
        self.assertIn("\t", others)
        for sign in others + [chr(955), chr(1634), chr(65297), chr(128512)]:
            self.check(sign, 0)
            self.check("1 2" + sign, 3)
            self.check("[+" + sign + "]", 2)
            self.check("a" + sign + "]", 1)

    def test_what_closes_another_thing(self):
        for sign in "]};|":
            self.check(sign, 0)
            self.check("12" + sign, 2)
            self.check("[]" + sign, 2)
        for begun, wrong in (("[", "};"), ("[+|", "};|"), ("{", "];|"), (":F", "]}|"), (":F[", "};"), ("[{", "];|"),
                             ("{[", "};"), ("[[]|", "};|"), ("[|[|", "};|"), ("[|{", "];|")):
            for sign in wrong:
                self.check(begun + sign, len(begun))
                self.check(begun + " " + sign + "]", len(begun) + 1)

    def test_bar(self):
        self.check("[a|b|c]", 4)
        self.check("[[a|b]|c|d]", 8)
        self.check("[{|}]", 2)
        self.assertEqual([("choose", [("choose", [], [])], [("choose", [], [])])], read("[[|]|[|]]"))

    def test_definitions_stand_outside(self):
        for begun in ("[", "{", "[|", ":F", ":F[", "[["):
            self.check(begun + ":F;", len(begun))
            self.check(begun + "1:", len(begun) + 1)
        self.assertEqual(2, len(read(":F;:G;")))

    def test_sign_behind_equals(self):
        for sign in "A0+ \n=';%\t~`{" + chr(225):
            self.check("=" + sign, 1)
            self.check("1=" + sign + "]", 2)
            self.check("[=" + sign, 2)

    def test_sign_behind_colon(self):
        for sign in "a0+ \n:';%\t@[" + chr(193):
            self.check(":" + sign, 1)
            self.check("1:" + sign + "]", 2)

    def test_sign_behind_quote(self):
        for sign in "%\t\r" + chr(0) + chr(31) + chr(127) + chr(128) + chr(955):
            self.check("'" + sign, 1)
            self.check("[1'" + sign + "]", 3)

    def test_end(self):
        for text in ("=", ":", "'", "1=", "1:", "1'", ":F", ":F1", "[", "[a", "[a|", "[a|b", "{", "{a ", "[{}", "''[",
                     ":F[]", "[=", "[" * 29):
            self.check(text, len(text))

    def test_depth(self):
        for text in ("[" * 30, "{" * 30, "[|" * 29 + "[", "[" * 29 + "|{", ":F" + "[" * 28 + "{"):
            self.check(text, len(text) - 1)
            self.check(text + "]", len(text) - 1)
        self.check("[" * 29 + "]" * 5 + "[" * 6, 29 + 5 + 5)

    def test_long_numerals(self):
        self.check("1" * 19, 18)
        self.check("9" * 40 + "%", 18)
        self.check("0" * 5 + "1" * 19, 23)
        self.check("0" * 30 + "1" * 19, 48)
        self.check("[1 " + "1" + "0" * 18 + "]", 21)
        self.check("1" + "0" * 18, 18)
        self.assertEqual([("num", 10 ** 17)], read("1" + "0" * 17))

    def test_first_of_several_faults(self):
        self.check("[}%", 1)
        self.check("=%]", 1)
        self.check("a]" + "1" * 19, 1)
        self.check("1" * 19 + "]", 18)


if __name__ == "__main__":
    unittest.main()
