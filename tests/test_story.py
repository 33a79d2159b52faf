"""Stories, single steps and footprints: points [23] to [26]."""

import random
import unittest

from plinth.errors import BadFuel
from plinth.machine import State, run
from plinth.story import footprint, next_state, start, state_after, story
from tests.helpers import HUGE, cells, one_node

ECHO = [0, 44, 0, 1, 1, 46, 0, 2]
ALL_SIGNS = "#+-*<~@!=,^.&_\"\\?($)akzAKZ % 0|"


def wild_image(source):
    """Nodes of few numbers, with all kinds of operations."""
    rows = []
    for number in list(range(6)) + [65, 75]:
        operation = ord(source.choice(ALL_SIGNS))
        rows.append((number, operation, source.randrange(-2, 6), source.randrange(0, 7)))
    return cells(*rows)


class StartTest(unittest.TestCase):
    def test_start(self):
        for image, numbers in ((ECHO, [7]), ([], []), ([1, 2, 3], [-1])):
            self.assertEqual((0, (), (), (), 0, ()), start(image, numbers))


class NextStateTest(unittest.TestCase):
    def test_example(self):
        self.assertEqual((1, (7,), (), (), 1, ()), next_state(ECHO, [7], (0, (), (), (), 0, ())))

    def test_ended(self):
        self.assertIsNone(next_state(ECHO, [7], (2, (5,), (), (), 0, ())))
        self.assertIsNone(next_state([], [7], (0, (), (), (), 0, ())))
        self.assertIsNone(next_state(ECHO, [7], (-HUGE, (), ((1, 2),), (0,), 0, (3,))))

    def test_states_that_no_run_reaches(self):
        state = (1, (4, HUGE), ((-5, 6), (7, 8)), (-1, 3), 99, (1, 2))
        self.assertEqual((2, (4,), ((-5, 6), (7, 8)), (-1, 3), 99, (1, 2, HUGE)), next_state(ECHO, [7], state))
        state = (0, (4,), (), (3,), 99, ())
        self.assertEqual((1, (4, -1), (), (3,), 99, ()), next_state(ECHO, [7], state))

    def test_places_that_only_a_false_claim_has(self):
        for place in (-1, -2, -HUGE):
            state = (0, (4,), (), (), place, ())
            self.assertEqual((1, (4, -1), (), (), place, ()), next_state(ECHO, [7], state))
            self.assertIs(False, footprint(ECHO, [7], state)[4])

    def test_each_part_is_used(self):
        self.assertEqual((1, (4,), ((3, 4),), (), 0, ()), next_state(one_node("@"), [], (0, (3,), ((3, 4),), (), 0, ())))
        self.assertEqual((6, (), (), (5,), 0, ()), next_state(one_node(")"), [], (0, (), (), (5, 6), 0, ())))
        self.assertEqual((1, (), (), (), 0, ()), next_state(one_node("="), [], (0, (0,), ((5, 4),), (), 0, ())))

    def test_steps_of_a_whole_run(self):
        source = random.Random(24)
        for _ in range(100):
            image, numbers = wild_image(source), [3, -1, 0]
            states = story(image, numbers, fuel=30)
            for state, following in zip(states, states[1:]):
                self.assertEqual(following, next_state(image, numbers, state))
            if len(states) <= 30:
                self.assertIsNone(next_state(image, numbers, states[-1]))


class StoryTest(unittest.TestCase):
    STATES = [(0, (), (), (), 0, ()), (1, (7,), (), (), 1, ()), (2, (), (), (), 1, (7,))]

    def test_each_fuel(self):
        for fuel, many in ((0, 1), (1, 2), (2, 3), (3, 3), (100, 3)):
            self.assertEqual(self.STATES[:many], story(ECHO, [7, 8], fuel=fuel))

    def test_state_after(self):
        for steps, index in ((0, 0), (1, 1), (2, 2), (3, 2), (HUGE, 2)):
            self.assertEqual(self.STATES[index], state_after(ECHO, [7, 8], steps))

    def test_ended_at_once(self):
        self.assertEqual([(0, (), (), (), 0, ())], story([], [7], fuel=5))
        self.assertEqual((0, (), (), (), 0, ()), state_after([], [7], 5))

    def test_all_ways_to_the_same_state(self):
        source = random.Random(25)
        for _ in range(50):
            image, numbers = wild_image(source), [3, -1, 0]
            states = story(image, numbers, fuel=40)
            parted = State(image, numbers)
            for steps in range(41):
                expected = states[min(steps, len(states) - 1)]
                self.assertEqual(expected, state_after(image, numbers, steps))
                self.assertEqual(expected, parted.plain())
                ended, output, made = run(image, numbers, fuel=steps)
                self.assertEqual((list(expected[5]), min(steps, len(states) - 1)), (output, made))
                self.assertEqual(footprint(image, numbers, expected) is None, ended)
                parted.advance(fuel=1)

    def test_negative_numbers_of_steps(self):
        for number in (-1, -HUGE):
            for image in (ECHO, []):
                with self.assertRaises(BadFuel):
                    story(image, [7], fuel=number)
                with self.assertRaises(BadFuel):
                    state_after(image, [7], number)


class FootprintTest(unittest.TestCase):
    def check(self, expected, sign, stack=(), numbers=(), place=0, argument=5):
        state = (0, tuple(stack), ((3, 4),), (), place, ())
        found = footprint(one_node(sign, argument), list(numbers), state)
        self.assertEqual(expected, found, (sign, stack))
        self.assertIsInstance(found, tuple)
        self.assertIsInstance(found[4], bool)

    def test_example(self):
        self.assertEqual((1, 0, None, None, False, None), footprint(ECHO, [7], (1, (), (), (), 0, ())))

    def test_counts(self):
        counts = {
            "#": (0, 1), "+": (2, 1), "-": (2, 1), "*": (2, 1), "<": (2, 1), "~": (2, 1), "^": (0, 0), ".": (1, 0),
            "_": (1, 0), "\"": (1, 2), "\\": (2, 2), "?": (1, 0), "A": (0, 0), "K": (0, 0), "Z": (0, 0), "(": (1, 0),
            ")": (0, 0), " ": (0, 0), "%": (0, 0), "0": (0, 0), "|": (0, 0), "[": (0, 0), "{": (0, 0),
        }
        for sign, (pops, pushes) in counts.items():
            for stack in ((), (8,), (7, 8, 9)):
                self.check((pops, pushes, None, None, False, None), sign, stack, numbers=[1])
        for code in (-1, -97, 0, 96, 123, 1000, HUGE, -HUGE):
            self.check((0, 0, None, None, False, None), code, (7, 8))

    def test_store(self):
        for stack, top in (((), 0), ((8,), 8), ((8, 3), 3), ((8, -HUGE), -HUGE)):
            self.check((1, 1, top, None, False, None), "@", stack)
            self.check((2, 0, None, top, False, None), "!", stack)
            self.check((1, 0, None, 5, False, None), "=", stack)
            self.check((1, 0, None, -3, False, None), "=", stack, argument=-3)
            for letter in "amz":
                self.check((0, 1, ord(letter), None, False, None), letter, stack)

    def test_input(self):
        for numbers, place, takes in (([7], 0, True), ([7, 8], 1, True), ([7], 1, False), ([], 0, False), ([7], 9, False)):
            self.check((0, 1, None, None, takes, None), ",", (4,), numbers, place)

    def test_cell(self):
        for stack, index in (((), 0), ((8, 3), 3), ((-1,), -1), ((4,), 4), ((HUGE,), HUGE), ((-HUGE,), -HUGE)):
            self.check((1, 1, None, None, False, index), "&", stack)

    def test_dollar(self):
        image = cells((0, 36, 0, 1), (1, 32, 0, 0), (70, 32, 0, 0), (199, 32, 0, 0), (200, 32, 0, 0), (-1, 32, 0, 0))
        for number in (1, 70, 199):
            self.assertEqual((1, 0, None, None, False, None), footprint(image, [], (0, (number,), (), (), 0, ())))
        for number in (0, -1, 2, 71, 198, 200, HUGE):
            self.assertEqual((1, 1, None, None, False, None), footprint(image, [], (0, (number,), (), (), 0, ())))
        self.assertEqual((1, 1, None, None, False, None), footprint(image, [], (0, (), (), (), 0, ())))

    def test_ended(self):
        for state in ((1, (), (), (), 0, ()), (-HUGE, (1,), (), (), 0, ())):
            self.assertIsNone(footprint(one_node(","), [7], state))
        self.assertIsNone(footprint([], [7], (0, (), (), (), 0, ())))

    def test_agrees_with_the_step(self):
        source = random.Random(26)
        for _ in range(3000):
            image, numbers = wild_image(source), [3, -1, 0]
            stack = tuple(source.randrange(-2, 80) for _ in range(4))
            state = (source.randrange(6), stack, ((1, 5), (97, 6)), (2,), source.randrange(5), (4,))
            self.check_step(image, numbers, state)

    def check_step(self, image, numbers, state):
        pops, pushes, reads, writes, takes, cell = footprint(image, numbers, state)
        following = next_state(image, numbers, state)
        stack, after = state[1], following[1]
        self.assertEqual(len(stack) - pops + pushes, len(after))
        self.assertEqual(stack[:len(stack) - pops], after[:len(stack) - pops])
        self.assertEqual(int(takes), max(following[4] - state[4], 0))
        if reads is not None:
            self.assertEqual(dict(state[2]).get(reads, 0), after[-1])
        for address in set(dict(state[2])) | set(dict(following[2])):
            if address != writes:
                self.assertEqual(dict(state[2]).get(address), dict(following[2]).get(address))
        if writes is not None:
            self.assertEqual(stack[len(stack) - pops], dict(following[2]).get(writes, 0))
        if cell is not None:
            self.assertEqual(stack[-1], cell)


if __name__ == "__main__":
    unittest.main()
