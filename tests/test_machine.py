"""The machine: points [21] to [25]."""

import unittest

from plinth.errors import BadFuel
from plinth.machine import State, run
from tests.helpers import HUGE, cells, one_node, step

SIGNS = "#+-*<~@!=,^.&_\"\\?($)"
LETTERS = "abcdefghijklmnopqrstuvwxyz"
CAPITALS = LETTERS.upper()

# The image of the document's example: it writes the first integer of its input.
ECHO = [0, 44, 0, 1, 1, 46, 0, 2]
# It writes its input up to the first negative integer.
COPY = [0, 44, 0, 1, 1, 34, 0, 2, 2, 35, 0, 3, 3, 60, 0, 4, 4, 63, 5, 9, 5, 46, 0, 0]
# It pushes 1 for ever.
ENDLESS = [0, 35, 1, 0]


class StackTest(unittest.TestCase):
    def check(self, sign, before, after):
        state = step(one_node(sign), stack=before)
        self.assertEqual(after, state.stack, (sign, before))
        self.assertEqual((1, {}, [], 0, []), (state.at, state.store, state.back, state.place, state.output))

    def test_push_argument(self):
        self.check("#", [], [5])
        self.check("#", [1, 2], [1, 2, 5])
        self.assertEqual([-HUGE], step(one_node("#", -HUGE)).stack)

    def test_arithmetic_on_a_full_stack(self):
        self.check("+", [9, 7, 3], [9, 10])
        self.check("-", [9, 7, 3], [9, 4])
        self.check("-", [9, 3, 7], [9, -4])
        self.check("*", [9, 7, 3], [9, 73])
        self.check("*", [-2, 5], [-15])
        self.check("*", [2, -5], [15])

    def test_comparisons(self):
        for sign, less, equal, greater in (("<", 1, 0, 0), ("~", 0, 1, 0)):
            self.check(sign, [9, 3, 7], [9, less])
            self.check(sign, [9, 7, 7], [9, equal])
            self.check(sign, [9, 7, 3], [9, greater])
            self.assertIs(int, type(step(one_node(sign), stack=[1, 2]).stack[0]))

    def test_arithmetic_on_a_short_stack(self):
        for sign, one, none in (("+", 4, 0), ("-", -4, 0), ("*", 4, 0), ("<", 1, 0), ("~", 0, 1)):
            self.check(sign, [4], [one])
            self.check(sign, [], [none])

    def test_integers_of_any_size(self):
        self.check("+", [HUGE, 1], [HUGE + 1])
        self.check("-", [-HUGE, HUGE], [-2 * HUGE])
        self.check("*", [HUGE, -1], [10 * HUGE - 1])
        self.check("<", [HUGE, HUGE + 1], [1])
        self.check("~", [HUGE, HUGE + 1], [0])
        self.check("~", [HUGE + 1, HUGE + 1], [1])

    def test_drop_double_exchange(self):
        self.check("_", [1, 2], [1])
        self.check("_", [], [])
        self.check("\"", [1, 2], [1, 2, 2])
        self.check("\"", [], [0, 0])
        self.check("\\", [1, 2, 3], [1, 3, 2])
        self.check("\\", [4], [4, 0])
        self.check("\\", [], [0, 0])

    def test_operations_that_are_not_in_the_table(self):
        known = {ord(sign) for sign in SIGNS + LETTERS + CAPITALS}
        others = [code for code in range(-130, 300) if code not in known]
        self.assertIn(37, others)
        for code in others + [HUGE, -HUGE]:
            self.check(code, [1, 2], [1, 2])


class StoreTest(unittest.TestCase):
    def test_get(self):
        store = {3: 30, 0: 4, -HUGE: HUGE}
        for address, number in ((3, 30), (0, 4), (-HUGE, HUGE), (5, 0), (-3, 0), (HUGE, 0)):
            state = step(one_node("@"), stack=[9, address], store=store)
            self.assertEqual(([9, number], store), (state.stack, state.store))
        self.assertEqual([4], step(one_node("@"), store=store).stack)
        self.assertEqual([0], step(one_node("@")).stack)

    def test_put(self):
        state = step(one_node("!"), stack=[9, 8, 3], store={3: 1, 4: 2})
        self.assertEqual(([9], {3: 8, 4: 2}), (state.stack, state.store))
        state = step(one_node("!"), stack=[-HUGE])
        self.assertEqual(([], 0, 0), (state.stack, state.store.get(-HUGE, 0), state.store.get(0, 0)))
        state = step(one_node("!"), store={0: 7})
        self.assertEqual(([], 0), (state.stack, state.store.get(0, 0)))

    def test_set_argument(self):
        for argument in (5, 97, 0, -HUGE):
            state = step(one_node("=", argument), stack=[9, 8], store={5: 1})
            self.assertEqual(([9], 8), (state.stack, state.store[argument]))
        self.assertEqual(0, step(one_node("="), store={5: 1}).store.get(5, 0))

    def test_small_letters(self):
        store = {code: 1000 + code for code in range(90, 130)}
        for letter in LETTERS:
            state = step(one_node(letter), stack=[9], store=store)
            self.assertEqual(([9, 1000 + ord(letter)], store), (state.stack, state.store))
            self.assertEqual([0], step(one_node(letter)).stack)

    def test_written_and_read_in_one_run(self):
        image = cells((0, 35, 8, 1), (1, 61, 97, 2), (2, 97, 0, 3), (3, 35, 97, 4), (4, 64, 0, 5), (5, 43, 0, 6),
                      (6, 46, 0, 7))
        self.assertEqual((True, [16], 7), run(image, [], fuel=9))


class InputTest(unittest.TestCase):
    def test_take(self):
        state = step(one_node(","), [7, HUGE], stack=[9])
        self.assertEqual(([9, 7], 1), (state.stack, state.place))
        state = step(one_node(","), [7, -HUGE], place=1)
        self.assertEqual(([-HUGE], 2), (state.stack, state.place))

    def test_take_at_the_end(self):
        for numbers, place in (([], 0), ([7], 1), ([7, 8], 2), ([7], 5)):
            state = step(one_node(","), numbers, stack=[9], place=place)
            self.assertEqual(([9, -1], place), (state.stack, state.place))

    def test_rewind(self):
        for place in (0, 1, 2, 7):
            state = step(one_node("^"), [7, 8], stack=[9], place=place)
            self.assertEqual(([9], 0), (state.stack, state.place))

    def test_rewound_input_is_read_again(self):
        image = cells((0, 44, 0, 1), (1, 94, 0, 2), (2, 44, 0, 3), (3, 46, 0, 4), (4, 46, 0, 5))
        self.assertEqual((True, [7, 7], 5), run(image, [7, 8], fuel=5))

    def test_write(self):
        state = step(one_node("."), stack=[9, -HUGE])
        self.assertEqual(([9], [-HUGE]), (state.stack, state.output))
        self.assertEqual(([], [0]), (step(one_node(".")).stack, step(one_node(".")).output))


class CellTest(unittest.TestCase):
    def test_cells(self):
        # A node that does not count, and two cells that belong to no node.
        image = cells((0, 1, 2, 3), (0, 38, 5, 1)) + [70, 80]
        for index in range(-10, 10):
            self.assertEqual([9, image[index]], step(image, stack=[9, index]).stack)
        for index in (10, 11, -11, -12, HUGE, -HUGE):
            self.assertEqual([9, 0], step(image, stack=[9, index]).stack)
        self.assertEqual([0], step(image).stack)
        self.assertEqual([80], step(image, stack=[-1]).stack)
        self.assertEqual([4], step([4, 38, 0, 0, 0, 38, 0, 0]).stack)


class JumpTest(unittest.TestCase):
    def check(self, image, after, at=0, stack=(), back=()):
        state = step(image, stack=stack, back=back, at=at)
        self.assertEqual(after, (state.at, state.stack, state.back), (image, stack, back))

    def test_branch(self):
        self.check(one_node("?", 5, 6), (5, [9], []), stack=[9, 0])
        self.check(one_node("?", 5, 6), (5, [], []))
        for c in (1, -1, HUGE, -HUGE):
            self.check(one_node("?", 5, 6), (6, [9], []), stack=[9, c])

    def test_capital_letters(self):
        for letter in CAPITALS:
            self.check(one_node(letter, 5, 6), (ord(letter), [9], [8, 6]), stack=[9], back=[8])

    def test_call_of_a_popped_number(self):
        for number in (0, 7, -3, 200, HUGE, -HUGE):
            self.check(one_node("(", 5, 6), (number, [9], [8, 6]), stack=[9, number], back=[8])
        self.check(one_node("(", 5, 6), (0, [], [6]))

    def test_dollar_calls(self):
        for number in (1, 2, 65, 98, 198, 199):
            image = cells((0, 36, 5, 6), (number, 32, 0, 0))
            self.check(image, (number, [9], [8, 6]), stack=[9, number], back=[8])

    def test_dollar_pushes_again(self):
        for number in (0, -1, -65, 200, 201, 1000, HUGE, -HUGE):
            image = cells((0, 36, 5, 6), (number, 32, 0, 0), (0, 36, 5, 6))
            self.check(image, (6, [9, number], [8]), stack=[9, number], back=[8])
        for number in (1, 65, 199):
            image = cells((0, 36, 5, 6), (number + 1, 32, 0, 0), (number - 1, 36, 5, 6))
            self.check(image, (6, [9, number], [8]), stack=[9, number], back=[8])
        self.check(one_node("$", 5, 6), (6, [0], []))

    def test_return(self):
        self.check(one_node(")", 5, 6), (7, [9], [8]), stack=[9], back=[8, 7])
        self.check(one_node(")", 5, 6), (0, [9], []), stack=[9], back=[0])
        self.check(one_node(")", 5, 6), (6, [9], []), stack=[9])

    def test_successors_of_any_size(self):
        image = cells((0, 32, 0, HUGE), (HUGE, 35, 4, -HUGE), (-HUGE, 46, 0, -1))
        self.assertEqual((True, [4], 3), run(image, [], fuel=10))

    def test_call_and_return_in_one_run(self):
        image = cells((0, 70, 0, 1), (1, 46, 0, 2), (2, 41, 0, 3), (70, 35, 6, 71), (71, 41, 0, 1000))
        self.assertEqual((True, [6], 5), run(image, [], fuel=9))

    def test_other_parts_stay(self):
        for sign in "?$()AZ":
            state = step(one_node(sign), [1, 2], stack=[4], store={3: 4}, back=[5], place=1)
            self.assertEqual(({3: 4}, 1, []), (state.store, state.place, state.output))


class FuelTest(unittest.TestCase):
    def test_example(self):
        self.assertEqual((True, [7], 2), run(ECHO, [7, 8], fuel=9))
        self.assertEqual((True, [7], 2), run(ECHO, [7, 8], fuel=2))
        self.assertEqual((False, [], 1), run(ECHO, [7, 8], fuel=1))
        self.assertEqual((False, [], 0), run(ECHO, [7, 8], fuel=0))
        self.assertEqual((True, [-1], 2), run(ECHO, [], fuel=2))

    def test_ended_at_once(self):
        for image in ([], [0, 44, 0], [1, 44, 0, 1]):
            for fuel in (0, 1, 100):
                self.assertEqual((True, [], 0), run(image, [7], fuel=fuel))

    def test_each_fuel_of_a_run(self):
        for fuel in range(20):
            ended, output, steps = run(COPY, [4, 5], fuel=fuel)
            self.assertEqual((fuel >= 17, min(fuel, 17)), (ended, steps))
            self.assertEqual([4, 5][:fuel // 6], output)

    def test_endless_run(self):
        self.assertEqual((False, [], 1000), run(ENDLESS, [], fuel=1000))

    def test_last_node_counts(self):
        image = cells((0, 35, 1, 1), (1, 35, 2, 2), (1, 46, 0, 2), (0, 35, 3, 1))
        self.assertEqual((True, [3], 2), run(image, [], fuel=5))

    def test_negative_fuel(self):
        for fuel in (-1, -HUGE):
            with self.assertRaises(BadFuel):
                run(ECHO, [7], fuel=fuel)
            state = State(ECHO, [7])
            with self.assertRaises(BadFuel):
                state.advance(fuel=fuel)
            self.assertEqual((0, State(ECHO, [7]).plain()), (state.steps, state.plain()))
        with self.assertRaises(BadFuel):
            run([], [], fuel=-1)

    def test_result_is_a_new_list_of_integers(self):
        self.assertIsInstance(run(ECHO, [7], fuel=2), tuple)
        self.assertIsInstance(run(ECHO, [7], fuel=2)[1], list)
        self.assertIs(True, run(ECHO, [7], fuel=2)[0])
        self.assertIs(False, run(ECHO, [7], fuel=1)[0])


class StateTest(unittest.TestCase):
    def test_at_the_start(self):
        state = State(ECHO, [7])
        self.assertEqual((0, 0, 0), (state.at, state.place, state.steps))
        self.assertEqual(([], [], [], {}), (state.stack, state.back, state.output, state.store))
        self.assertEqual((0, (), (), (), 0, ()), state.plain())

    def test_step_and_has_ended(self):
        state = State(ECHO, [7])
        seen = []
        for _ in range(4):
            seen.append((state.has_ended(), state.steps, state.step()))
        self.assertEqual([(False, 0, True), (False, 1, True), (True, 2, False), (True, 2, False)], seen)
        self.assertEqual((2, (), (), (), 1, (7,)), state.plain())

    def test_advance_in_several_calls(self):
        whole = State(COPY, [4, 5])
        self.assertEqual(17, whole.advance(fuel=100))
        for sizes in ([0, 17], [1] * 17, [3, 0, 9, 5], [16, 1], [16, 2, 1], [17, 1]):
            state = State(COPY, [4, 5])
            made = [state.advance(fuel=size) for size in sizes]
            self.assertEqual((17, 17), (sum(made), state.steps))
            self.assertEqual(whole.plain(), state.plain())
            self.assertEqual(0, state.advance(fuel=5))
            self.assertTrue(state.has_ended())

    def test_advance_with_exact_and_too_little_fuel(self):
        state = State(COPY, [4, 5])
        self.assertEqual(16, state.advance(fuel=16))
        self.assertFalse(state.has_ended())
        self.assertEqual(1, state.advance(fuel=1))
        self.assertTrue(state.has_ended())

    def test_plain_leaves_out_zeros_and_sorts(self):
        state = State([], [])
        state.store = {5: 1, 3: 0, -7: 2, HUGE: 3, 0: -1, 4: 0, -HUGE: 4}
        self.assertEqual(((-HUGE, 4), (-7, 2), (0, -1), (5, 1), (HUGE, 3)), state.plain()[2])
        state.stack, state.back, state.output = [1, 2], [3, 4], [5, 6]
        state.at, state.place = 8, 9
        self.assertEqual((8, (1, 2), state.plain()[2], (3, 4), 9, (5, 6)), state.plain())

    def test_store_that_becomes_0_again(self):
        image = cells((0, 35, 4, 1), (1, 61, 97, 2), (2, 61, 97, 3), (3, 61, 98, 4))
        state = State(image, [])
        state.advance(fuel=2)
        self.assertEqual(((97, 4),), state.plain()[2])
        state.advance(fuel=9)
        self.assertEqual((4, (), (), (), 0, ()), state.plain())

    def test_keeps_copies(self):
        image, numbers = list(ECHO), [7]
        state = State(image, numbers)
        image[1] = 46
        numbers[0] = 9
        numbers.append(10)
        state.advance(fuel=9)
        self.assertEqual([7], state.output)

    def test_two_states_share_nothing(self):
        one, other = State(COPY, [4]), State(COPY, [4])
        one.advance(fuel=9)
        self.assertEqual((0, (), (), (), 0, ()), other.plain())


if __name__ == "__main__":
    unittest.main()
