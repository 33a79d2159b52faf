"""Digits: points [40] to [42]."""

import unittest

from plinth.digits import read_digits, write_digits
from plinth.errors import NotWritable
from tests.helpers import HUGE, codes


class ReadTest(unittest.TestCase):
    def test_ordinary_texts(self):
        self.assertEqual([7, 12, 3], read_digits(codes("7 12x3")))
        self.assertEqual([0], read_digits(codes("0")))
        self.assertEqual([1234567890], read_digits(codes("1234567890")))

    def test_without_digits(self):
        for text in ("", " ", "abc", "-+/:\n"):
            self.assertEqual([], read_digits(codes(text)))

    def test_leading_zeros(self):
        self.assertEqual([0, 0, 7, 70], read_digits(codes("0 000 007 0070")))

    def test_separators_of_any_code(self):
        for code in list(range(0, 48)) + list(range(58, 200)) + [1000, HUGE]:
            self.assertEqual([1, 23], read_digits([49, code, 50, 51]))
            self.assertEqual([1, 23], read_digits([code, code, 49, code, code, 50, 51, code]))
        self.assertEqual([5, 6], read_digits(codes("5-6")))

    def test_negative_integers(self):
        self.assertEqual([1], read_digits([49, -1, 50]))
        self.assertEqual([1, 2], read_digits([49, 32, 50, -HUGE, 51, 32, 52]))
        self.assertEqual([3], read_digits([51, 32, -1, 52]))
        self.assertEqual([], read_digits([-48, 49]))

    def test_long_numerals(self):
        for many in (60, 61, 500):
            self.assertEqual([10 ** many - 1, 1], read_digits([57] * many + [32, 49]))
        self.assertEqual([HUGE], read_digits([49] + [48] * 5000))


class WriteTest(unittest.TestCase):
    def test_ordinary_lists(self):
        self.assertEqual(codes("7 12 3"), write_digits([7, 12, 3]))
        self.assertEqual(codes("0"), write_digits([0]))
        self.assertEqual(codes("0 0 10"), write_digits([0, 0, 10]))
        self.assertEqual([], write_digits([]))

    def test_sixty_digits(self):
        self.assertEqual(codes("9" * 60), write_digits([10 ** 60 - 1]))
        self.assertEqual(codes("1 1" + "0" * 59), write_digits([1, 10 ** 59]))

    def test_what_cannot_be_written(self):
        for wrong in (-1, -7, -HUGE, 10 ** 60, 10 ** 60 + 5, HUGE):
            for numbers, at in (([wrong], 0), ([1, wrong], 1), ([0, 2, wrong, 3], 2), ([1, wrong, wrong], 1)):
                with self.assertRaises(NotWritable) as caught:
                    write_digits(numbers)
                self.assertEqual(at, caught.exception.at)

    def test_first_one_of_two_kinds(self):
        for numbers in ([5, 10 ** 60, -1], [5, -1, 10 ** 60]):
            with self.assertRaises(NotWritable) as caught:
                write_digits(numbers)
            self.assertEqual(1, caught.exception.at)

    def test_reading_what_was_written(self):
        for numbers in ([], [0], [0, 0], [5, 10 ** 60 - 1, 0, 10 ** 59, 42], list(range(300))):
            self.assertEqual(numbers, read_digits(write_digits(numbers)))


if __name__ == "__main__":
    unittest.main()
