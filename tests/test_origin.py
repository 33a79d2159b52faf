"""Origins: points [196] to [199]."""

import random
import unittest

from plinth.errors import BadFuel
from plinth.machine import run
from plinth.origin import control, origins
from plinth.short import translate_short
from tests.helpers import HUGE, cells, codes, counter, some_image, some_tree, translated


def short(text):
    return translate_short(codes(text))


class RowsTest(unittest.TestCase):
    """One test for each row of [196]."""

    def check(self, text, numbers, expected, decided=(), fuel=1000):
        image = text if isinstance(text, list) else short(text)
        self.assertEqual(expected, origins(image, numbers, fuel=fuel), text)
        self.assertEqual(list(decided), control(image, numbers, fuel=fuel), text)
        self.assertEqual(len(expected), len(run(image, numbers, fuel=fuel)[1]))

    def test_take(self):
        self.check(",.", [5], [[0]])
        self.check(",.,.,.,.", [5, 5, 7], [[0], [1], [2], []])
        self.check(",.,.", [], [[], []])
        # The input is read again; places are not taken for integers.
        self.check(",.^,.", [9], [[0], [0]])
        self.check(",,_.^,_,.", [-1, 0], [[0], [1]])

    def test_push(self):
        self.check("7#.", [5], [[]])
        self.check(",_7#.", [5], [[]])
        self.check(",7#.", [5], [[]])

    def test_an_empty_stack(self):
        self.check("..", [5], [[], []])
        self.check(",_..", [5], [[], []])
        self.check("+.-.*.<.~.", [], [[]] * 5)
        # The integer was popped, and the 0 of the empty stack is another one.
        self.check(",..", [5], [[0], []])

        # It is an address, and a number that may be called, too.
        self.check(",=@.", [5], [[0]])
        self.check(",=!0#@.", [5], [[]])
        self.check(",1=!1#@.", [5], [[0]])
        self.check("_$.", [5], [[]])

    def test_cells(self):
        # A cell has no origin, but the index decides.
        self.check("0#&.", [5], [[]])
        self.check(",&.", [3], [[0]], [0])
        self.check(",&_7#.", [99], [[0]], [0])
        self.check("&.", [5], [[]])
        self.check(",,&..", [4, 5], [[1], [0, 1]], [1])

    def test_operations_on_two_integers(self):
        for sign in "+-*<~":
            self.check(",," + sign + ".", [5, 6], [[0, 1]])
            self.check(",3#" + sign + ".", [5, 6], [[0]])
            self.check("3#," + sign + ".", [5, 6], [[0]])
            self.check("," + sign + ".", [5, 6], [[0]])
            self.check(",,,_" + sign + ".", [5, 6, 7], [[0, 1]])
            self.check(",\"" + sign + ".", [5], [[0]])
            self.check("4#3#" + sign + ".", [5], [[]])
        # The set stays, even if the result does not depend on the integer.
        self.check(",\"-.", [5], [[0]])
        self.check(",0#,_~_,.", [5, 6, 7], [[2]])

    def test_double_and_exchange(self):
        self.check(",,\"...", [5, 6], [[1], [1], [0]])
        self.check(",,\\..", [5, 6], [[0], [1]])
        self.check("\"..,\\..", [5], [[], [], [], [0]])
        self.check(",\\..", [5], [[], [0]])

    def test_drop(self):
        self.check(",,_.", [5, 6], [[0]])
        self.check("_,.", [5], [[0]])

    def test_store(self):
        self.check(",97=,98=a.b.a.", [5, 6], [[0], [1], [0]])
        self.check(",97=7#97=a.", [5], [[]])
        self.check(",7=7#@.", [5], [[0]])
        self.check(",44#!44#@.", [5], [[0]])
        self.check(",97#!97#@.97#@.a.", [5], [[0], [0], [0]])
        self.check("5#97=,_a.", [5], [[]])
        # An address from the input decides; the integer keeps its own set.
        self.check(",,!7#@.", [5, 7], [[0, 1]], [1])
        self.check("9#,!7#@.", [7], [[0]], [0])
        self.check(",@.", [7], [[0]], [0])
        self.check(",97=,@.", [5, 97], [[0, 1]], [1])
        self.check(",.,@.", [5, 97], [[0], [1]], [1])

    def test_addresses_that_were_never_written(self):
        self.check("a.7#@.z.", [5], [[], [], []])
        self.check(",97=b.98#@.", [5], [[], []])
        self.check("a._=", [5], [[]])

    def test_branch(self):
        # `,5?,.` of [199], on both ways.
        self.check(",5?,.", [1, 9], [[0, 1]], [0])
        self.check(",5?,.", [0, 9], [], [0])
        self.check(",.,3?,.", [1, 1, 2], [[0], [1, 2]], [1])
        self.check(",?,_7#.", [5, 6], [[0]], [0])
        self.check("1#2?,.", [5], [[0]])
        self.check("?", [5], [], (), 10)

    def test_call(self):
        call = cells((0, 44, 0, 1), (1, 40, 0, 3), (7, 35, 1, 8), (8, 46, 0, 9), (9, 41, 0, 0), (3, 44, 0, 4),
                     (4, 46, 0, 5))
        self.check(call, [7, 5], [[0], [0, 1]], [0])
        self.check(call, [8, 5], [[0], [0, 1]], [0])
        self.check(call, [6, 5], [], [0])
        self.check(cells((0, 35, 7, 1), (1, 40, 0, 2), (7, 44, 0, 8), (8, 46, 0, 9)), [4], [[0]])

    def test_call_if_defined(self):
        # The node 70 writes the next integer and returns.
        nodes = [(70, 44, 0, 71), (71, 46, 0, 72), (72, 41, 0, 0), (2, 46, 0, 3)]
        calls = cells((0, 44, 0, 1), (1, 36, 0, 2), *nodes)
        # It calls, so only the stack below is left.
        self.check(calls, [70, 5], [[0, 1], [0]], [0])
        # It pushes again, with the same set.
        self.check(calls, [75, 5], [[0]], [0])
        self.check(calls, [200, 5], [[0]], [0])
        self.check(calls, [0, 5], [[0]], [0])
        self.check(cells((0, 35, 70, 1), (1, 36, 0, 2), *nodes), [5], [[0], []])
        self.check(cells((0, 44, 0, 4), (4, 34, 0, 1), (1, 36, 0, 2), (2, 95, 0, 3), (3, 46, 0, 5)), [99], [[0]], [0])
        self.check(cells((0, 36, 0, 1), (1, 46, 0, 2)), [99], [[]])

    def test_what_changes_no_set(self):
        self.check(",;.", [5], [[0]])
        self.check(",^.", [5], [[0]])
        calls = cells((0, 44, 0, 1), (1, 70, 0, 2), (2, 46, 0, 3), (70, 34, 0, 71), (71, 46, 0, 72), (72, 41, 0, 9))
        self.check(calls, [5], [[0], [0]])

    def test_the_control_set_counts_from_the_step_on(self):
        # Writes the second integer before and behind a decision on the first one.
        image = cells((0, 44, 0, 1), (1, 44, 0, 2), (2, 34, 0, 3), (3, 46, 0, 4), (4, 92, 0, 5), (5, 63, 6, 6),
                      (6, 46, 0, 7))
        self.check(image, [1, 5], [[1], [0, 1]], [0])
        self.check(image, [1, 5], [[1]], [0], fuel=6)
        self.check(image, [1, 5], [[1]], [], fuel=5)


class ExamplesTest(unittest.TestCase):
    def test_examples(self):
        self.assertEqual((True, [11], 4), run(short(",,+."), [5, 6], fuel=99))
        self.assertEqual([[0, 1]], origins(short(",,+."), [5, 6], fuel=99))
        self.assertEqual([[]], origins(short(",_7#."), [5, 6], fuel=99))
        self.assertEqual([[0, 1]], origins(short(",5?,."), [1, 9], fuel=99))
        self.assertEqual([0], control(short(",5?,."), [1, 9], fuel=99))


class RunsTest(unittest.TestCase):
    def test_fuel(self):
        image = short(",.,.")
        for fuel, expected in ((0, []), (1, []), (2, [[0]]), (3, [[0]]), (4, [[0], [1]]), (HUGE, [[0], [1]])):
            self.assertEqual(expected, origins(image, [5, 6], fuel=fuel))
        image = cells((0, 44, 0, 1), (1, 63, 0, 0))
        for fuel, expected in ((0, []), (1, []), (2, [0]), (3, [0]), (4, [0, 1]), (5, [0, 1]), (6, [0, 1])):
            self.assertEqual(expected, control(image, [5, 6], fuel=fuel))
        self.assertEqual([], control([], [5], fuel=9))
        self.assertEqual([], origins([], [5], fuel=9))

    def test_bad_fuel(self):
        for image in ([], short(",.")):
            for fuel in (-1, -HUGE):
                with self.assertRaises(BadFuel):
                    origins(image, [5], fuel=fuel)
                with self.assertRaises(BadFuel):
                    control(image, [5], fuel=fuel)

    def test_long_runs(self):
        # Unions of many places, in ascending order, without duplicates.
        image = cells((0, 44, 0, 1), (1, 43, 0, 2), (2, 34, 0, 3), (3, 46, 0, 0))
        numbers = [7] * 300
        found = origins(image, numbers, fuel=1200)
        self.assertEqual([list(range(size)) for size in range(1, 301)], found)
        self.assertEqual([], origins(counter(20000), [], fuel=20000))

    def test_no_result_shares_a_list(self):
        found = origins(short(",\".."), [5], fuel=9)
        found[0].append(7)
        self.assertEqual([[0, 7], [0]], found)


class PairsOfInputsTest(unittest.TestCase):
    """The promises of [198]."""

    def other(self, source, numbers, kept):
        """An input that is equal at some places."""
        return [number if at in kept else source.choice([0, 1, 2, -1, 65, 70, 97, number])
                for at, number in enumerate(numbers)]

    def check(self, source, image, numbers, fuel):
        ended, output, steps = run(image, numbers, fuel=fuel)
        found = origins(image, numbers, fuel=fuel)
        decided = control(image, numbers, fuel=fuel)
        self.assertEqual(len(output), len(found))
        for places in found + [decided]:
            self.assertEqual(sorted(set(places)), places)
            self.assertTrue(all(0 <= place < len(numbers) for place in places))
        for at, places in list(enumerate(found))[:5]:
            again = run(image, self.other(source, numbers, places), fuel=fuel)[1]
            self.assertEqual(output[at:at + 1], again[at:at + 1])
        again = run(image, self.other(source, numbers, decided), fuel=fuel)
        self.assertEqual((ended, len(output), steps), (again[0], len(again[1]), again[2]))
        return len(found) > 0

    def test_images(self):
        source = random.Random(198)
        useful = 0
        for _ in range(1500):
            image = some_image(source, 12, "##,,,,,+-*<~@!=ab^..._\"\\??AFB$)&( ")
            numbers = [source.choice([0, 1, 2, -1, 65, 70, 97]) for _ in range(source.randrange(1, 6))]
            useful += self.check(source, image, numbers, 40)
        self.assertGreater(useful, 200)

    def test_programs(self):
        source = random.Random(199)
        useful = 0
        for _ in range(300):
            image = translated([("op", 44), ("op", 44), ("op", 44)] + some_tree(source, small="ab", capital="F"))
            numbers = [source.choice([0, 1, 2, 70, 97]) for _ in range(4)]
            useful += self.check(source, image, numbers, 200)
        self.assertGreater(useful, 10)


if __name__ == "__main__":
    unittest.main()
