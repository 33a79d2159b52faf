"""Signs: points [1] to [3]."""

import unittest

from plinth import errors
from plinth.errors import NotNumeral, NotText
from plinth.signs import codes_of, number_of, numeral, readable, text_of
from tests.helpers import CHARACTERS, HUGE


def classes_above(error):
    """The error classes of the package that an error belongs to."""
    classes = [value for value in vars(errors).values() if isinstance(value, type)]
    return {kind for kind in classes if isinstance(error, kind)}


class CharactersTest(unittest.TestCase):
    def test_each_character_both_ways(self):
        self.assertEqual(95, len(CHARACTERS))
        for character in CHARACTERS:
            self.assertEqual([ord(character)], codes_of(character))
            self.assertEqual(character, text_of([ord(character)]))

    def test_whole_texts(self):
        self.assertEqual([97, 49], codes_of("a1"))
        self.assertEqual([], codes_of(""))
        self.assertEqual("", text_of([]))
        self.assertEqual([ord(character) for character in CHARACTERS], codes_of(CHARACTERS))
        self.assertEqual(CHARACTERS, text_of(codes_of(CHARACTERS)))

    def test_other_characters(self):
        for code in list(range(0, 10)) + list(range(11, 32)) + [37, 127, 128, 160, 178, 255, 955, 65296, 128512]:
            for text in (chr(code), "ab" + chr(code), chr(code) + "ab"):
                with self.assertRaises(NotText):
                    codes_of(text)

    def test_other_codes(self):
        wrong = list(range(0, 10)) + list(range(11, 32)) + [37, 127, 128, 955, -1, -10, -32, -97, 10 ** 30, HUGE, -HUGE]
        for code in wrong:
            for listed in ([code], [97, code], [code, 97]):
                with self.assertRaises(NotText):
                    text_of(listed)

    def test_class_of_the_error(self):
        for call in (lambda: codes_of("%"), lambda: text_of([37]), lambda: text_of([HUGE])):
            with self.assertRaises(ValueError) as caught:
                call()
            self.assertEqual({errors.PlinthError, NotText}, classes_above(caught.exception))


class ReadableTest(unittest.TestCase):
    def test_without_a_negative_integer(self):
        self.assertEqual([], readable([]))
        self.assertEqual([0, 5, 1000, HUGE], readable([0, 5, 1000, HUGE]))

    def test_with_negative_integers(self):
        self.assertEqual([49], readable([49, -1, 50]))
        self.assertEqual([], readable([-3]))
        self.assertEqual([], readable([-HUGE, 1, 2]))
        self.assertEqual([1, 2], readable([1, 2, -5, 3, -6, 4]))
        self.assertEqual([1, 0], readable([1, 0, -1]))

    def test_returns_a_new_list(self):
        codes = [1, 2, 3]
        part = readable(codes)
        self.assertEqual(codes, part)
        self.assertIsNot(codes, part)
        part.append(4)
        self.assertEqual([1, 2, 3], codes)


class NumeralTest(unittest.TestCase):
    def test_numerals(self):
        nines = "9" * 60
        pairs = [(0, "0"), (7, "7"), (-7, "-7"), (10, "10"), (-120, "-120"), (10 ** 59, "1" + "0" * 59)]
        for number, text in pairs + [(int(nines), nines), (-int(nines), "-" + nines)]:
            self.assertEqual(text, numeral(number))
            self.assertEqual(number, number_of(text))

    def test_too_many_digits(self):
        for number in (10 ** 60, -10 ** 60, 10 ** 60 + 1, HUGE, -HUGE):
            with self.assertRaises(NotNumeral):
                numeral(number)
        for text in ("1" + "0" * 60, "-1" + "0" * 60, "9" * 61, "9" * 5000, "-" + "9" * 5000, "0" * 61):
            with self.assertRaises(NotNumeral):
                number_of(text)

    def test_texts_that_are_no_numerals(self):
        wrong = [
            "", "-", "--", "--7", "07", "00", "-0", "-07", "+7", "+", " 7", "7 ", "7 7", "7a", "a", "7-", "- 7",
            "7\n", "\n7", "1_000", "7.0", "0x1", "1e3", chr(178), chr(1634), "7" + chr(1634), "-00",
        ]
        for text in wrong:
            with self.assertRaises(NotNumeral, msg=text):
                number_of(text)

    def test_class_of_the_error(self):
        for call in (lambda: numeral(10 ** 60), lambda: number_of("07")):
            with self.assertRaises(ValueError) as caught:
                call()
            self.assertEqual({errors.PlinthError, NotNumeral}, classes_above(caught.exception))


if __name__ == "__main__":
    unittest.main()
