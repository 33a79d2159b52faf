"""From images back to trees: points [75] to [78]."""

import random
import unittest

from plinth.printing import write
from plinth.reading import read
from plinth.translate import translate
from plinth.untranslate import untranslate
from tests.helpers import CAPITAL, NUMBERS, SIGNS, SMALL, cells, codes, nested, some_tree, translated

EXAMPLE = cells((0, 32, 0, 200), (200, 35, 2, 201), (201, 97, 0, 202), (202, 43, 0, 203), (203, 46, 0, 204),
                (204, 41, 0, 205))
TEXTS = ["", "2a+.", "[x|y]", "[x]", "{1}", ":F7.;F", ":F;:G;", "[]", "[|]", "{}", "[{[|]}|{}]=a", ":F[1|{2}];3:F4;",
         "1 2 3", "F:F\".1-\"[F];$", "[[1]|[2|3]]{[4]}", ":A;1", "{{1}}[2]"]


class ReturnedTest(unittest.TestCase):
    def check(self, tree, **numbers):
        image = translated(tree, **numbers)
        triple = (tree, numbers.get("first", 200), numbers.get("by", 1))
        self.assertEqual(triple, untranslate(image))

    def test_example(self):
        tree = [("num", 2), ("op", 97), ("op", 43), ("op", 46)]
        self.assertEqual((tree, 200, 1), untranslate(EXAMPLE))

    def test_kinds_of_results(self):
        triple = untranslate(translate(codes("[1|2]")))
        self.assertIsInstance(triple, tuple)
        self.assertIsInstance(triple[0], list)
        self.assertIsInstance(triple[0][0], tuple)
        self.assertIsInstance(triple[0][0][1], list)

    def test_texts_with_all_numbers(self):
        for text in TEXTS:
            for first, by in NUMBERS:
                self.check(read(text), first=first, by=by)

    def test_all_items(self):
        for sign in SIGNS + SMALL + CAPITAL:
            self.check([("op", ord(sign))])
        for letter in SMALL:
            self.check([("put", ord(letter))])
        for letter in CAPITAL:
            self.check([("def", ord(letter), [("op", ord(letter))])])
        for number in (0, 1, 9, 32, 63, 65, 200, 201, 202, 10 ** 18 - 1):
            self.check([("num", number)])
            self.check([("num", number), ("num", number)], first=-1, by=-1)

    def test_deepest(self):
        for kind in ("when", "choose", "loop"):
            self.check(nested(30, kind))
            self.check([("def", 70, nested(29, kind))], first=-5, by=-2)

    def test_many_trees(self):
        source = random.Random(76)
        for _ in range(400):
            first, by = source.choice(NUMBERS[:-1])
            self.check(some_tree(source), first=first, by=by)

    def test_texts_with_the_image_of_a_tree(self):
        # The image alone counts, not the text that it was made from.
        self.assertEqual(([("num", 97), ("num", 7)], 200, 1), untranslate(translate(codes("'a \n007"))))
        self.assertEqual(([("num", 0)], 200, 1), untranslate(translate(codes("#"))))
        self.assertEqual(([("num", 5)], 200, 1), untranslate(translate(codes("5") + [-1, 40])))


class NoneTest(unittest.TestCase):
    def check_changed(self, image):
        """The image has no triple, or one whose tree has this very image."""
        triple = untranslate(image)
        if triple is not None:
            tree, first, by = triple
            self.assertEqual(image, translated(tree, first=first, by=by))
            self.assertEqual(tree, read(write(tree)))
        return triple is None

    def test_short_images(self):
        for image in ([], [0], [0, 32, 0, 200], [0, 32, 0, 200, 200], [0, 32, 0, 200, 200, 41, 0]):
            self.assertIsNone(untranslate(image))

    def test_numbers_that_are_not_allowed(self):
        for first, by in ((199, 1), (0, 1), (200, 0), (200, -1), (-1, 1), (-1, 0), (0, -1), (65, 1), (300, -1)):
            for text in ("", "1", "[x|y]", "{1}"):
                self.assertIsNone(untranslate(translate(codes(text), first=first, by=by)), (text, first, by))

    def test_example_without_its_last_node(self):
        self.assertIsNone(untranslate(EXAMPLE[:-4]))

    def test_example_with_changed_cells(self):
        changed = EXAMPLE[:6] + [3] + EXAMPLE[7:]
        self.assertEqual([("num", 3), ("op", 97), ("op", 43), ("op", 46)], untranslate(changed)[0])
        # The argument 2 of `#`, and the operations `a`, `+` and `.`, can be
        # others; nothing else can.
        for at, cell in enumerate(EXAMPLE):
            for other in (-1, 0, 1, 32, 35, 38, 40, 41, 61, 63, 200, 201, 203, 205, 206, 10 ** 18, cell + 1, cell - 1):
                if other != cell and not (at == 6 and 0 <= other < 10 ** 18) and at not in (9, 13, 17):
                    changed = EXAMPLE[:at] + [other] + EXAMPLE[at + 1:]
                    self.assertIsNone(untranslate(changed), (at, other))

    def test_operations_that_no_tree_has(self):
        for operation in (-1, 0, 10, 31, 32, 37, 38, 39, 40, 41, 47, 48, 57, 58, 59, 61, 62, 63, 91, 93, 96, 123, 127):
            image = cells((0, 32, 0, 200), (200, operation, 0, 201), (201, 41, 0, 202))
            self.assertIsNone(untranslate(image), operation)

    def test_programs_that_are_no_trees(self):
        for text in ("]", "}", ";", "|", "[", "{", "[|", ":F", "[}", "{]", "[|}", ":F]", "a|b", "[a|b|c]", "[:F;]",
                     "{:F;}", ":F1:G2;3;", ":f;", ":7;", "=A", "='", "&", "(", ")", "?", "`", "/", ":F[;]"):
            self.assertIsNone(untranslate(translate(codes(text))), text)

    def test_limits_of_trees(self):
        for number in (10 ** 18, 10 ** 5000, -1):
            image = cells((0, 32, 0, 200), (200, 35, number, 201), (201, 41, 0, 202))
            self.assertIsNone(untranslate(image))
        for text in ("[" * 30 + "]" * 30, "{" * 30 + "}" * 30, ":F" + "[" * 29 + "]" * 29 + ";",
                     "[" * 5000 + "]" * 5000):
            self.assertIsNone(untranslate(translate(codes(text))))

    def test_any_cell_changed(self):
        source = random.Random(75)
        none = 0
        for text in TEXTS:
            for first, by in ((200, 1), (-1, -1), (900, 7)):
                image = translate(codes(text), first=first, by=by)
                for at, cell in enumerate(image):
                    near = [cell - 1, cell + 1, cell + by, cell - by]
                    for other in near + [0, 1, 32, 35, 41, 63, 70, -7, source.choice(image)]:
                        if other != cell:
                            none += self.check_changed(image[:at] + [other] + image[at + 1:])
        self.assertGreater(none, 5000)

    def test_nodes_left_out_repeated_or_moved(self):
        for text in TEXTS:
            image = translate(codes(text))
            for start in range(0, len(image), 4):
                node = image[start:start + 4]
                rest = image[:start] + image[start + 4:]
                self.check_changed(rest)
                for place in range(0, len(rest) + 1, 4):
                    self.check_changed(rest[:place] + node + rest[place:])
                for place in range(0, len(image) + 1, 4):
                    self.check_repeated(image, node, place)

    def check_repeated(self, image, node, place):
        """Only the one node of an empty definition can stand there again."""
        is_none = self.check_changed(image[:place] + node + image[place:])
        self.assertTrue(is_none or node[1:] == [41, 0, 1], (image, node, place))

    def test_empty_definition_repeated(self):
        image = translate(codes(":F;:F;"))
        self.assertEqual([("def", 70, [])] * 3, untranslate(image[:4] + [70, 41, 0, 1] + image[4:])[0])

    def test_cells_appended(self):
        for text in TEXTS:
            image = translate(codes(text))
            for more in ([0], [7, 8], [200, 41, 0], image[-4:], image[:4], [image[-1], 41, 0, image[-1] + 1], image):
                self.assertIsNone(untranslate(image + more), (text, more))


if __name__ == "__main__":
    unittest.main()
