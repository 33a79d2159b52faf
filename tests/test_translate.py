"""Twig: points [60] to [67]."""

import random
import unittest

from plinth.nodes import nodes_of
from plinth.translate import Translator, translate
from tests.helpers import HUGE, NUMBERS, codes

SPECIAL = {39, 61, 58, 91, 124, 93, 123, 125, 59}


def renamed(image, first, by):
    """The image with other numbers, made from the default numbers."""
    def new(number):
        return number if number < 200 else first + (number - 200) * by

    cells = []
    for number, operation, argument, successor in nodes_of(image):
        cells += [new(number), operation, new(argument) if operation == 63 else argument, new(successor)]
    return cells


class TranslateTest(unittest.TestCase):
    def check(self, program, *nodes):
        """The nodes between the first one, (0, 32, 0, 200), and the end."""
        program = codes(program) if isinstance(program, str) else program
        image = translate(program)
        self.assertEqual([(0, 32, 0, 200)] + list(nodes), nodes_of(image), program)
        self.assertEqual(4 * len(nodes) + 4, len(image))

    def test_examples(self):
        self.check("2 a+.", (200, 35, 2, 201), (201, 97, 0, 202), (202, 43, 0, 203), (203, 46, 0, 204),
                   (204, 41, 0, 205))
        self.check("[x|y]", (200, 63, 201, 202), (202, 120, 0, 203), (203, 32, 0, 204), (201, 121, 0, 205),
                   (205, 32, 0, 204), (204, 41, 0, 206))
        self.check("]", (200, 32, 0, 0), (0, 41, 0, 201))

    def test_empty(self):
        self.check("", (200, 41, 0, 201))

    def test_blanks(self):
        for code in range(33):
            self.check([code], (200, 41, 0, 201))
            self.check([49, code, 50], (200, 35, 1, 201), (201, 35, 2, 202), (202, 41, 0, 203))

    def test_numerals(self):
        self.check("0", (200, 35, 0, 201), (201, 41, 0, 202))
        self.check("9876543210", (200, 35, 9876543210, 201), (201, 41, 0, 202))
        self.check("007 00", (200, 35, 7, 201), (201, 35, 0, 202), (202, 41, 0, 203))
        self.check("1+2", (200, 35, 1, 201), (201, 43, 0, 202), (202, 35, 2, 203), (203, 41, 0, 204))
        self.check([57] * 400, (200, 35, 10 ** 400 - 1, 201), (201, 41, 0, 202))

    def test_numeral_before_each_sign(self):
        self.check("5'a", (200, 35, 5, 201), (201, 35, 97, 202), (202, 41, 0, 203))
        self.check("5=a", (200, 35, 5, 201), (201, 61, 97, 202), (202, 41, 0, 203))
        self.check("5:F", (200, 35, 5, 201), (70, 41, 0, 202))
        self.check("5[", (200, 35, 5, 201), (201, 63, 202, 203), (203, 41, 0, 204))
        self.check("5|", (200, 35, 5, 201), (201, 32, 0, 202), (0, 41, 0, 203))
        self.check("5]", (200, 35, 5, 201), (201, 32, 0, 0), (0, 41, 0, 202))
        self.check("5{", (200, 35, 5, 201), (201, 32, 0, 202), (202, 41, 0, 203))
        self.check("5}", (200, 35, 5, 201), (201, 63, 202, 0), (202, 41, 0, 203))
        self.check("5;", (200, 35, 5, 201), (201, 41, 0, 1), (0, 41, 0, 202))

    def test_quote_and_equals(self):
        for code in list(range(0, 130)) + [1000, HUGE]:
            self.check([39, code, 43], (200, 35, code, 201), (201, 43, 0, 202), (202, 41, 0, 203))
            self.check([61, code, 43], (200, 61, code, 201), (201, 43, 0, 202), (202, 41, 0, 203))

    def test_skipped_digits_are_no_numeral(self):
        self.check("'12", (200, 35, 49, 201), (201, 35, 2, 202), (202, 41, 0, 203))
        self.check("=12", (200, 61, 49, 201), (201, 35, 2, 202), (202, 41, 0, 203))

    def test_colon(self):
        for code in list(range(0, 130)) + [199, 200, 1000, HUGE]:
            self.check([58, code, 43, 59, 46], (code, 43, 0, 201), (201, 41, 0, 1), (200, 46, 0, 202),
                       (202, 41, 0, 203))
        self.check("+:F", (200, 43, 0, 201), (70, 41, 0, 202))
        self.check(":F:G+;.;", (71, 43, 0, 201), (201, 41, 0, 1), (70, 46, 0, 202), (202, 41, 0, 1), (200, 41, 0, 203))

    def test_signs_at_the_end(self):
        for sign in "'=:":
            self.check(sign, (200, 41, 0, 201))
            self.check("+" + sign, (200, 43, 0, 201), (201, 41, 0, 202))
            self.check("7" + sign, (200, 35, 7, 201), (201, 41, 0, 202))

    def test_choice_without_a_bar(self):
        self.check("[+].", (200, 63, 201, 202), (202, 43, 0, 203), (203, 32, 0, 201), (201, 46, 0, 204),
                   (204, 41, 0, 205))

    def test_choice_with_two_bars(self):
        self.check("[|+|]", (200, 63, 201, 202), (202, 32, 0, 203), (201, 43, 0, 204), (204, 32, 0, 205),
                   (203, 32, 0, 205), (205, 41, 0, 206))

    def test_loop(self):
        self.check("{+}.", (200, 32, 0, 201), (201, 43, 0, 202), (202, 63, 203, 201), (203, 46, 0, 204),
                   (204, 41, 0, 205))

    def test_nested_signs(self):
        self.check("{[}", (200, 32, 0, 201), (201, 63, 202, 203), (203, 63, 204, 202), (204, 41, 0, 205))
        self.check("[{]", (200, 63, 201, 202), (202, 32, 0, 203), (203, 32, 0, 203), (203, 41, 0, 204))
        self.check(":F{;", (70, 32, 0, 201), (201, 41, 0, 1), (201, 41, 0, 202))
        self.check(":F}", (70, 63, 201, 200), (201, 41, 0, 202))
        self.check(":F|", (70, 32, 0, 201), (200, 41, 0, 202))
        self.check(":F]", (70, 32, 0, 200), (200, 41, 0, 201))

    def test_empty_pile(self):
        self.check("|", (200, 32, 0, 201), (0, 41, 0, 202))
        self.check("|]", (200, 32, 0, 201), (0, 32, 0, 201), (201, 41, 0, 202))
        self.check("}", (200, 63, 201, 0), (201, 41, 0, 202))
        self.check(";", (200, 41, 0, 1), (0, 41, 0, 201))
        self.check("]+", (200, 32, 0, 0), (0, 43, 0, 201), (201, 41, 0, 202))
        self.check("[]]", (200, 63, 201, 202), (202, 32, 0, 201), (201, 32, 0, 0), (0, 41, 0, 203))

    def test_other_codes(self):
        others = [code for code in range(33, 300) if code not in SPECIAL and not 48 <= code <= 57]
        for code in others + [100000, HUGE]:
            self.check([code], (200, code, 0, 201), (201, 41, 0, 202))
            self.check([49, code], (200, 35, 1, 201), (201, code, 0, 202), (202, 41, 0, 203))

    def test_negative_integers(self):
        self.check([43, -1, 46], (200, 43, 0, 201), (201, 41, 0, 202))
        self.check([49, -HUGE, 50], (200, 35, 1, 201), (201, 41, 0, 202))
        self.check([-43], (200, 41, 0, 201))
        for sign in "'=:":
            self.check([ord(sign), -5, 97, 46], (200, 41, 0, 201))
        self.check([43, -1, -2, 46], (200, 43, 0, 201), (201, 41, 0, 202))


class NumbersTest(unittest.TestCase):
    PROGRAM = "2 a+.:F3[x|{y}];F[=b]'c"

    def test_default(self):
        self.assertEqual(translate(codes(self.PROGRAM)), translate(codes(self.PROGRAM), first=200, by=1))

    def test_explicit_numbers(self):
        self.assertEqual([0, 32, 0, -1, -1, 35, 2, -2, -2, 97, 0, -3, -3, 43, 0, -4, -4, 46, 0, -5, -5, 41, 0, -6],
                         translate(codes("2 a+."), first=-1, by=-1))
        self.assertEqual([(0, 32, 0, 300), (300, 63, 310, 320), (320, 120, 0, 330), (330, 32, 0, 340),
                          (310, 121, 0, 350), (350, 32, 0, 340), (340, 41, 0, 360)],
                         nodes_of(translate(codes("[x|y]"), first=300, by=10)))
        self.assertEqual([0, 32, 0, -9, -9, 41, 0, -11], translate([], first=-9, by=-2))

    def test_only_one_of_them(self):
        self.assertEqual([0, 32, 0, 250, 250, 41, 0, 251], translate([], first=250))
        self.assertEqual([0, 32, 0, 200, 200, 41, 0, 204], translate([], by=4))

    def test_each_choice(self):
        default = translate(codes(self.PROGRAM))
        for first, by in NUMBERS:
            self.assertEqual(renamed(default, first, by), translate(codes(self.PROGRAM), first=first, by=by))


class TranslatorTest(unittest.TestCase):
    def fields(self, translator):
        return (len(translator.image) // 4, translator.m, translator.k, translator.pile, translator.numeral,
                translator.waiting)

    def test_new(self):
        self.assertEqual((1, 200, 201, [], None, None), self.fields(Translator()))
        self.assertEqual([0, 32, 0, 200], Translator().image)
        self.assertEqual((1, -3, -7, [], None, None), self.fields(Translator(first=-3, by=-4)))
        self.assertEqual([0, 32, 0, -3], Translator(first=-3, by=-4).image)

    def test_fields_behind_each_code(self):
        rows = [
            ("0", 1, 200, 201, [], 0, None), ("7", 1, 200, 201, [], 7, None), ("1", 1, 200, 201, [], 71, None),
            (" ", 2, 201, 202, [], None, None), ("5", 2, 201, 202, [], 5, None), ("'", 3, 202, 203, [], None, 39),
            ("8", 4, 203, 204, [], None, None), ("=", 4, 203, 204, [], None, 61), ("=", 5, 204, 205, [], None, None),
            (":", 5, 204, 205, [], None, 58), ("F", 5, 70, 205, [204], None, None),
            ("[", 6, 206, 207, [204, 205], None, None), ("|", 7, 205, 208, [204, 207], None, None),
            ("+", 8, 208, 209, [204, 207], None, None), ("]", 9, 207, 209, [204], None, None),
            ("{", 10, 209, 210, [204, 209], None, None), ("}", 11, 210, 211, [204], None, None),
            (";", 12, 204, 211, [], None, None), ("9", 12, 204, 211, [], 9, None),
        ]
        translator = Translator()
        for sign, *fields in rows:
            self.assertIsNone(translator.take(ord(sign)))
            self.assertEqual(tuple(fields), self.fields(translator), sign)
        image = translator.finish()
        self.assertEqual((14, 212, 213, [], None, None), self.fields(translator))
        self.assertEqual(image, translator.image)
        self.assertEqual(translate([ord(row[0]) for row in rows]), image)

    def test_behind_a_negative_code(self):
        for text in ("", "+", "5", "+'", "=", "7:", "[{", "5:F12"):
            for wrong in (-1, -39, -HUGE):
                translator = Translator()
                for code in codes(text):
                    translator.take(code)
                before, image = self.fields(translator), list(translator.image)
                for code in [wrong, 43, 49, 39, 97, -1, 93]:
                    translator.take(code)
                    self.assertEqual((before, image), (self.fields(translator), translator.image), text)
                self.assertEqual(translate(codes(text)), translator.finish())

    def test_behind_finish(self):
        for text in ("", "+", "5", "+'", "=", "7:", "[{", "5:F12"):
            translator = Translator()
            for code in codes(text):
                translator.take(code)
            image = translator.finish()
            before = self.fields(translator)
            for code in (43, 49, 39, 97, 93, -1, 46):
                translator.take(code)
                self.assertEqual((before, image), (self.fields(translator), translator.image), text)
            self.assertEqual(image, translator.finish())
            self.assertEqual(before, self.fields(translator))
            self.assertEqual(translate(codes(text)), image)

    def test_finish_twice(self):
        translator = Translator(first=-1, by=-1)
        translator.take(43)
        one, other = translator.finish(), translator.finish()
        self.assertEqual([0, 32, 0, -1, -1, 43, 0, -2, -2, 41, 0, -3], one)
        self.assertEqual(one, other)
        self.assertIsNot(one, other)
        self.assertIsNot(one, translator.image)
        one.append(9)
        self.assertEqual(other, translator.finish())

    def test_two_translators_side_by_side(self):
        one, other = Translator(), Translator(first=300)
        for code in codes("[+"):
            one.take(code)
        self.assertEqual((1, 300, 301, [], None, None), self.fields(other))
        self.assertEqual([0, 32, 0, 300, 300, 41, 0, 301], other.finish())

    def test_same_work_as_translate(self):
        source = random.Random(66)
        for _ in range(300):
            program = [source.choice([source.randrange(0, 130), source.choice(codes("'=:[|]{};09 "))])
                       for _ in range(source.randrange(30))]
            first, by = source.choice(NUMBERS)
            translator = Translator(first=first, by=by)
            for code in program:
                translator.take(code)
            self.assertEqual(translate(program, first=first, by=by), translator.finish())
            self.assertEqual(translate(program), translate(program + [-1] + program))


if __name__ == "__main__":
    unittest.main()
