"""The words of lines: point [260] and the interface of plinth/words.py."""

import unittest

from plinth.words import integer_of, is_name, words_of
from tests.helpers import CHARACTERS

NO_CHARACTERS = ["\u0025", "\t", "\r", "\x00", "\x1f", "\x7f", "\u00e4", "\u0661", "\u2028", "\U0001f600"]


class WordsTest(unittest.TestCase):
    def test_words(self):
        for line, words in (("a", ["a"]), ("show a", ["show", "a"]), ("show text", ["show", "text"]),
                            ("numbers a 1 -2", ["numbers", "a", "1", "-2"]),
                            ("A ~ '", ["A", "~", "'"]), ("texts a", ["texts", "a"]), ("a text b", ["a", "text", "b"]),
                            ("Text a", ["Text", "a"]), ("tex", ["tex"]), ("atext b", ["atext", "b"])):
            self.assertEqual(words, words_of(line), line)

    def test_all_characters(self):
        for sign in CHARACTERS:
            if sign not in " \n":
                self.assertEqual(["show", "a" + sign, sign], words_of(f"show a{sign} {sign}"))
                self.assertEqual(["text", "a", sign + " " + sign], words_of(f"text a {sign} {sign}"))

    def test_malformed(self):
        for line in ("", " ", "  ", " a", "a ", "a  b", "a b ", " a b", "a b  c", "show  a", "show ", "   a",
                     "texts  a", " text a", " text", "Text a ", "a text  b"):
            self.assertIsNone(words_of(line), line)

    def test_characters_that_are_not_allowed(self):
        for sign in NO_CHARACTERS + ["\n"]:
            for line in (sign, "a" + sign, sign + "a", f"show {sign} b", f"text a {sign}", f"text {sign}",
                         f"text{sign}a b", f"text a b{sign}"):
                self.assertIsNone(words_of(line), line)

    def test_text(self):
        for line, text in (("text a", ""), ("text a ", ""), ("text a b", "b"), ("text a  ", " "), ("text a  b", " b"),
                           ("text a b ", "b "), ("text a b  c ", "b  c "), ("text a    ", "   "),
                           ("text a text b", "text b"), ("text a 1 2", "1 2")):
            self.assertEqual(["text", "a", text], words_of(line), line)
        self.assertEqual(["text", "A-9", "x"], words_of("text A-9 x"))
        for line in ("text", "text ", "text  ", "text  a", "text   a b", "text  a b"):
            self.assertIsNone(words_of(line), line)


class NamesTest(unittest.TestCase):
    def test_names(self):
        for word in ("a", "z", "abcdefghijkl", "text", "nopqrstuvwxy"):
            self.assertIs(True, is_name(word), word)
        for word in ("", "abcdefghijklm", "A", "aB", "a1", "1", "a-b", "a b", " a", "a\n", "`", "{", "\u00e4",
                     "\u0430", "a_"):
            self.assertIs(False, is_name(word), word)


class IntegersTest(unittest.TestCase):
    def test_numerals(self):
        for word, number in (("0", 0), ("7", 7), ("-7", -7), ("10", 10), ("9" * 60, 10 ** 60 - 1),
                             ("-" + "9" * 60, 1 - 10 ** 60)):
            self.assertEqual(number, integer_of(word))
        for word in ("", "-", "+7", "07", "-0", "--7", "1.0", "a", "7 ", " 7", "1_0", "9" * 61, "-" + "9" * 61,
                     "\u0661", "\n7"):
            self.assertIsNone(integer_of(word), word)

    def test_bounds(self):
        for number in (-3, -1, 0, 5):
            self.assertEqual(number, integer_of(str(number), least=number))
            self.assertEqual(number, integer_of(str(number), most=number))
            self.assertEqual(number, integer_of(str(number), least=number, most=number))
            self.assertEqual(number, integer_of(str(number), least=number - 1, most=number + 1))
            self.assertEqual(number, integer_of(str(number), least=None, most=None))
            self.assertIsNone(integer_of(str(number), least=number + 1))
            self.assertIsNone(integer_of(str(number), most=number - 1))
            self.assertIsNone(integer_of(str(number), least=number + 1, most=number + 9))
            self.assertIsNone(integer_of(str(number), least=number - 9, most=number - 1))
        self.assertIsNone(integer_of("x", least=0, most=9))
        self.assertEqual(0, integer_of("0", least=0, most=0))


if __name__ == "__main__":
    unittest.main()
