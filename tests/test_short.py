"""Short: points [40] and [43] to [46]."""

import unittest

from plinth.nodes import nodes_of
from plinth.short import ShortReader, translate_short
from tests.helpers import HUGE, codes

EVERYTHING = "12 3#'4'  7:x 5>'''>98 7+:;6'"


class TranslateTest(unittest.TestCase):
    def check(self, text, *nodes):
        numbers = codes(text) if isinstance(text, str) else text
        image = translate_short(numbers)
        self.assertEqual(list(nodes), nodes_of(image), text)
        self.assertEqual(4 * len(nodes), len(image))

    def test_examples(self):
        self.check("5#.7:x>", (0, 35, 5, 1), (1, 46, 0, 2), (7, 120, 0, 8), (8, 32, 0, 0))
        self.check("5#.\n7:x>", (0, 35, 5, 1), (1, 46, 0, 2), (7, 120, 0, 8), (8, 32, 0, 0))
        self.check("'7 3 4>", (0, 35, 55, 1), (1, 32, 0, 34))
        self.check("1 2#", (0, 35, 12, 1))

    def test_empty(self):
        self.check("")
        self.check(" \n ")
        self.check("123")
        self.check("7:")

    def test_blanks(self):
        for code in range(33):
            self.check([code])
            self.check([49, code, 50, code, 43, code, 46], (0, 43, 12, 1), (1, 46, 0, 2))

    def test_digits(self):
        for digit in range(10):
            self.check([48 + digit, 43], (0, 43, digit, 1))
            self.check([49, 48 + digit, 43], (0, 43, 10 + digit, 1))
        self.check("007+", (0, 43, 7, 1))
        self.check([57] * 400 + [43], (0, 43, 10 ** 400 - 1, 1))

    def test_digits_that_no_later_code_uses(self):
        self.check("+12", (0, 43, 0, 1))
        self.check("+1 2 ", (0, 43, 0, 1))

    def test_colon(self):
        self.check("7:+", (7, 43, 0, 8))
        self.check("+:.", (0, 43, 0, 1), (0, 46, 0, 1))
        self.check("7:8:+", (8, 43, 0, 9))
        self.check("7::+", (0, 43, 0, 1))
        self.check("1 7 : 3 +.", (17, 43, 3, 18), (18, 46, 0, 19))

    def test_greater(self):
        self.check("7>", (0, 32, 0, 7))
        self.check(">>", (0, 32, 0, 0), (1, 32, 0, 0))
        self.check("1 2 >3>", (0, 32, 0, 12), (1, 32, 0, 3))

    def test_quote(self):
        for code in list(range(0, 130)) + [1000, HUGE]:
            self.check([53, 39, code, 43], (0, 35, code, 1), (1, 43, 0, 2))
        self.check("'5+", (0, 35, 53, 1), (1, 43, 0, 2))
        self.check("' +", (0, 35, 32, 1), (1, 43, 0, 2))
        self.check("''+", (0, 35, 39, 1), (1, 43, 0, 2))
        self.check("5'a>", (0, 35, 97, 1), (1, 32, 0, 0))

    def test_quote_at_the_end(self):
        self.check("'")
        self.check("+'", (0, 43, 0, 1))
        self.check("'''", (0, 35, 39, 1))

    def test_other_codes(self):
        others = [code for code in range(33, 300) if code not in (39, 58, 62) and not 48 <= code <= 57]
        for code in others + [100000, HUGE]:
            self.check([code], (0, code, 0, 1))
            self.check([57, code, code], (0, code, 9, 1), (1, code, 0, 2))

    def test_negative_integers(self):
        self.check([43, -1, 46], (0, 43, 0, 1))
        self.check([49, -43, 50, 43])
        self.check([39, -5, 46])
        self.check([-HUGE, 43])
        self.check([43, 46, -1, -2, 43], (0, 43, 0, 1), (1, 46, 0, 2))


class ShortReaderTest(unittest.TestCase):
    def fields(self, reader):
        return (reader.m, reader.r, reader.waiting, reader.finished, reader.image())

    def test_new(self):
        self.assertEqual((0, 0, False, False, []), self.fields(ShortReader()))

    def test_feed_returns_none(self):
        self.assertIsNone(ShortReader().feed([43]))

    def test_cut_at_every_place(self):
        whole = codes(EVERYTHING)
        image = translate_short(whole)
        self.assertEqual(36, len(image))
        for at in range(len(whole) + 1):
            for pieces in ([whole[:at], whole[at:]], [[], whole[:at], [], [], whole[at:], []]):
                reader = ShortReader()
                for piece in pieces:
                    reader.feed(piece)
                self.assertEqual(image, reader.image())
        reader = ShortReader()
        for at, code in enumerate(whole):
            reader.feed([code])
            self.assertEqual(translate_short(whole[:at + 1]), reader.image())

    def test_fields_behind_each_code(self):
        expected = {
            "1": (0, 1, False), "2": (0, 12, False), " ": (0, 12, False), "#": (1, 0, False), "3": (1, 3, False),
            "'": (1, 3, True), "9": (2, 0, False), "8": (2, 8, False), ":": (8, 0, False), "7": (8, 7, False),
            ">": (9, 0, False),
        }
        reader = ShortReader()
        for sign, fields in expected.items():
            reader.feed([ord(sign)])
            self.assertEqual(fields + (False,), self.fields(reader)[:4], sign)
            self.assertIsInstance(reader.waiting, bool)
        self.assertEqual([(0, 35, 12, 1), (1, 35, 57, 2), (8, 32, 0, 7)], nodes_of(reader.image()))

    def test_quote_waits_over_empty_pieces(self):
        reader = ShortReader()
        reader.feed(codes("5'"))
        reader.feed([])
        self.assertEqual((0, 5, True, False, []), self.fields(reader))
        reader.feed(codes("6+"))
        self.assertEqual((2, 0, False, False, [0, 35, 54, 1, 1, 43, 0, 2]), self.fields(reader))

    def test_negative_integer(self):
        reader = ShortReader()
        reader.feed(codes("+56") + [-1] + codes("7.'"))
        self.assertEqual((1, 56, False, True, [0, 43, 0, 1]), self.fields(reader))
        for piece in (codes("9+.'>:"), [], [-1], [-HUGE, 43]):
            reader.feed(piece)
            self.assertEqual((1, 56, False, True, [0, 43, 0, 1]), self.fields(reader))

    def test_negative_integer_ends_the_waiting(self):
        for pieces in ([[53, 39, -1]], [[53, 39], [-1]], [[53, 39], [], [-1, 43]]):
            reader = ShortReader()
            for piece in pieces:
                reader.feed(piece)
            self.assertEqual((0, 5, False, True, []), self.fields(reader))
            reader.feed([43])
            self.assertEqual((0, 5, False, True, []), self.fields(reader))

    def test_two_readers_side_by_side(self):
        one, other = ShortReader(), ShortReader()
        one.feed(codes("5'"))
        other.feed(codes("7:"))
        one.feed(codes("a"))
        other.feed(codes("b"))
        self.assertEqual((1, 0, False, False, [0, 35, 97, 1]), self.fields(one))
        self.assertEqual((8, 0, False, False, [7, 98, 0, 8]), self.fields(other))

    def test_keeps_nothing_of_a_piece_and_gives_copies(self):
        reader = ShortReader()
        piece = codes("+'")
        reader.feed(piece)
        self.assertEqual(codes("+'"), piece)
        piece[0] = 46
        piece.append(97)
        image = reader.image()
        self.assertEqual([0, 43, 0, 1], image)
        image.append(9)
        image[1] = 8
        self.assertEqual([0, 43, 0, 1], reader.image())
        self.assertIsNot(reader.image(), reader.image())
        reader.feed([98])
        self.assertEqual([0, 43, 0, 1, 1, 35, 98, 2], reader.image())


if __name__ == "__main__":
    unittest.main()
