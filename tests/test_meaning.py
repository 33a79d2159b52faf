"""The meaning of trees: points [72] to [74]."""

import random
import unittest

from plinth.errors import BadFuel
from plinth.machine import run
from plinth.meaning import mean
from plinth.reading import read
from tests.helpers import NUMBERS, nested, some_tree, translated


def op(sign):
    return ("op", ord(sign))


class StepsTest(unittest.TestCase):
    """What each item does, with the outputs and steps of the document."""

    def check(self, text, output, steps, numbers=()):
        tree = read(text)
        self.assertEqual((True, output, steps), mean(tree, list(numbers), 1000), text)
        self.assertEqual((True, output, steps), mean(tree, list(numbers), steps), text)
        self.assertFalse(mean(tree, list(numbers), steps - 1)[0], text)

    def test_empty(self):
        self.check("", [], 2)
        self.assertEqual((False, [], 0), mean([], [], 0))
        self.assertEqual((False, [], 1), mean([], [], 1))

    def test_num(self):
        self.check("7.", [7], 4)
        self.check("1 2 3...", [3, 2, 1], 8)
        self.assertEqual((True, [10 ** 18 - 1], 4), mean([("num", 10 ** 18 - 1), op(".")], [], 4))

    def test_signs(self):
        self.check("7 2+.", [9], 6)
        self.check("2 7-.", [-5], 6)
        self.check("4 2*.", [42], 6)
        self.check("2 7<. 7 7<.", [1, 0], 10)
        self.check("7 7~. 7 2~.", [1, 0], 10)
        self.check("7 5! 5@. 6@.", [7, 0], 11)
        self.check("1 2_.", [1], 6)
        self.check("3\"..", [3, 3], 6)
        self.check("1 2\\..", [1, 2], 7)

    def test_input(self):
        self.check(",.,.,.", [5, 6, -1], 8, [5, 6])
        self.check(",.^,.", [5, 5], 7, [5, 6])
        self.check(",.", [-3], 4, [-3])

    def test_empty_stack(self):
        self.check(".+.-.*.<.~.", [0, 0, 0, 0, 0, 1], 13)
        self.check("5\\..", [0, 5], 6)
        self.check("=aa.@.", [0, 0], 7)
        self.check("[1.|2.]", [2], 6)
        self.check("$.", [0], 4)

    def test_put(self):
        self.check("7=aa.a.b.", [7, 7, 0], 10)
        self.check("7=a 8=a a. 97@.", [8, 8], 11)
        self.check("7 98!b.", [7], 7)

    def test_when(self):
        self.check("1[5.]", [5], 7)
        self.check("0[5.]", [], 4)
        self.check("0 1-[5.]6.", [5, 6], 11)
        self.check("1[]", [], 5)
        self.check("1 1[[5.]]6.", [5, 6], 12)

    def test_choose(self):
        self.check("1[5.|6.]", [5], 7)
        self.check("0[5.|6.]", [6], 7)
        self.check("0[5.|]7.", [7], 7)
        self.check("1[|6.]7.", [7], 7)

    def test_loop(self):
        self.check("3{\".1-\"}", [3, 2, 1], 3 + 1 + 3 * 6)
        self.check("{}", [], 4)
        self.check("1 1{}", [], 8)
        self.check("2{2{\".1-\"}_1-\"}", [2, 1, 2, 1], 3 + 2 * (2 + 2 * 6 + 5) + 1)

    def test_definitions(self):
        self.check("5:F7.;.", [5], 4)
        self.check(":F7.;:G8.;", [], 2)

    def test_calls(self):
        self.check(":F7.;F", [7], 6)
        self.check("F.:F7.;", [7, 0], 7)
        self.check(":F;FF", [], 6)
        self.check("2F.:F3+G;:G4+;", [9], 12)
        self.check("3F:F\".1-\"[F];", [3, 2, 1], 2 + 9 + 9 + 8 + 1)

    def test_names_that_are_not_defined(self):
        self.check("1.F2.", [1], 4)
        self.check("F", [], 2)
        self.check("1[F2.]3.", [], 4)
        self.check(":GF2.;1.G3.", [1], 5)
        self.check("1{F}:G;", [], 4)

    def test_names_that_are_defined_twice(self):
        self.check(":F1.;F:F2.;F", [2, 2], 10)
        self.check("F:F1.;:F;.", [0], 5)
        self.check(":F1.F;:F2.;F", [2], 6)

    def test_call_if_defined(self):
        self.check(":F7.;70$.", [7, 0], 8)
        self.check("70$.:F7.;", [7, 0], 8)
        self.check("70$.:G7.;", [70], 5)
        self.check(":F1.;:F2.;70$", [2], 7)
        self.check(":F7.;0 70-$. 170$. 70 1+$.", [-70, 170, 71], 15)
        self.check(":F71$;:G9.;70$", [9], 10)

    def test_words_of_the_document(self):
        self.check("2 a+.", [2], 6)

    def test_deep_calls(self):
        self.assertEqual((False, [], 20000), mean(read("F:FF;"), [], 20000))
        tree = read(",=n F .:F n[1 n\\- =n F 1+|0];")
        self.assertEqual((True, [3000]), mean(tree, [3000], 10 ** 6)[:2])

    def test_kinds_of_results(self):
        ended, output, steps = mean(read("5."), [], 9)
        self.assertIs(True, ended)
        self.assertIsInstance(output, list)
        self.assertEqual(4, steps)
        self.assertIs(False, mean([], [], 1)[0])


class FuelTest(unittest.TestCase):
    def test_negative(self):
        for fuel in (-1, -5, -10 ** 30):
            with self.assertRaises(BadFuel):
                mean([], [], fuel)
            with self.assertRaises(BadFuel):
                mean(read("5."), [1], fuel)

    def test_endless(self):
        tree = read("{1.1}")
        for fuel in range(30):
            self.assertEqual(run(translated(tree), [], fuel=fuel), mean(tree, [], fuel))
        self.assertEqual((False, 50000), mean(tree, [], 50000)[::2])


class TranslationTest(unittest.TestCase):
    """Point [74]: what `mean` returns is what the translation does."""

    def check(self, tree, numbers, fuel, **choice):
        self.assertEqual(run(translated(tree, **choice), numbers, fuel=fuel), mean(tree, numbers, fuel),
                         (tree, numbers, fuel))

    def test_every_fuel(self):
        texts = ["F:F1.;:F2.F;", "1{\".2<[5|0]}", ",$.,$.:A3.;:B4[A|C];", "2{\"=a[a.|B]a1-\"}:B,=b;", "[x|y]{z}",
                 "0[1|2[3|4[5.]]]..", "{,\".1+}^,."]
        for text in texts:
            for numbers in ([], [65, 66], [0, -1, 7]):
                for fuel in range(70):
                    self.check(read(text), numbers, fuel)

    def test_other_numbers(self):
        for first, by in NUMBERS:
            for text in ("2 a+.", "1[2.|3.]", ":F7.;F70$.199$.", "3{\".1-\"}", "FG:F1.;", ",$:A1.;.200$."):
                for fuel in (0, 1, 5, 6, 7, 40):
                    self.check(read(text), [65], fuel, first=first, by=by)

    def test_many_trees(self):
        source = random.Random(74)
        endings = {True: 0, False: 0}
        for _ in range(600):
            tree = some_tree(source, small="ab", capital="FG")
            first, by = source.choice(NUMBERS[:-1])
            numbers = [source.choice([0, 1, 70, 71, 97, -1]) for _ in range(source.randrange(4))]
            for fuel in [source.randrange(25), source.randrange(25), 150]:
                self.check(tree, numbers, fuel, first=first, by=by)
            endings[mean(tree, numbers, 150)[0]] += 1
        self.assertGreater(endings[True], 300)
        self.assertGreater(endings[False], 20)

    def test_deep_trees(self):
        for kind in ("when", "choose", "loop"):
            tree = [("num", 1)] * 40 + nested(30, kind) + [op(".")]
            for fuel in range(0, 160, 7):
                self.check(tree, [], fuel)


if __name__ == "__main__":
    unittest.main()
