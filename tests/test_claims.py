"""Claims about runs: points [180] and [181]."""

import random
import unittest

from plinth.claims import due, entry, first_fault, result_of, right_claim
from plinth.errors import BadClaim, BadFuel
from plinth.machine import run
from plinth.story import next_state, start, story
from tests.helpers import HUGE, cells, counter, some_image

# Takes two numbers and writes their sum.
ADD = cells((0, 44, 0, 1), (1, 44, 0, 2), (2, 43, 0, 3), (3, 46, 0, 4))
LOOP = [0, 32, 0, 0]
STATES = [
    (0, (), (), (), 0, ()), (1, (5,), (), (), 1, ()), (2, (5, 6), (), (), 2, ()), (3, (11,), (), (), 2, ()),
    (4, (), (), (), 2, (11,)),
]


def changed_states(state):
    """States that differ from one in one of its parts."""
    at, stack, store, back, place, output = state
    return [
        (at + 1, stack, store, back, place, output), (-1 - at, stack, store, back, place, output),
        (at, stack + (0,), store, back, place, output), (at, stack, store + ((HUGE, 1),), back, place, output),
        (at, stack, store, back + (3,), place, output), (at, stack, store, back, place + 1, output),
        (at, stack, store, back, -5, output), (at, stack, store, back, place, output + (0,)),
    ]


def faults(image, numbers, claim):
    """The indexes of all entries at fault, up to the one behind the last state."""
    found = []
    for index in range(len(claim) + 1):
        if index == 0:
            right = start(image, numbers)
        else:
            right = next_state(image, numbers, claim[index - 1])
        if (claim[index] if index < len(claim) else None) != right:
            found.append(index)
    return found


class RightClaimTest(unittest.TestCase):
    def test_right_claims(self):
        self.assertEqual(STATES, right_claim(ADD, [5, 6], fuel=4))
        self.assertEqual(STATES, right_claim(ADD, [5, 6], fuel=HUGE))
        self.assertIsNone(right_claim(ADD, [5, 6], fuel=3))
        self.assertIsNone(right_claim(ADD, [5, 6], fuel=0))
        self.assertEqual([(0, (), (), (), 0, ())], right_claim([], [7], fuel=0))
        self.assertIsNone(right_claim(LOOP, [], fuel=500))

    def test_stories(self):
        source = random.Random(180)
        for _ in range(100):
            image = some_image(source, 8)
            if run(image, [1, 2], fuel=60)[0]:
                self.assertEqual(story(image, [1, 2], fuel=60), right_claim(image, [1, 2], fuel=60))
            else:
                self.assertIsNone(right_claim(image, [1, 2], fuel=60))

    def test_a_long_run_that_does_not_end(self):
        # The stack grows with each step.
        self.assertIsNone(right_claim([0, 35, 5, 0], [], fuel=100000))
        self.assertEqual(1001, len(right_claim(counter(1000), [], fuel=1000)))

    def test_bad_fuel(self):
        for image in (ADD, [], LOOP):
            for fuel in (-1, -HUGE):
                with self.assertRaises(BadFuel):
                    right_claim(image, [], fuel=fuel)

    def test_result(self):
        self.assertEqual(([11], 4), result_of(STATES))
        self.assertEqual(([], 2), result_of(STATES[:3]))
        self.assertEqual(([], 0), result_of(STATES[:1]))
        self.assertEqual(([3, HUGE], 1), result_of([STATES[4], (9, (1,), ((1, 1),), (2,), 5, (3, HUGE))]))
        with self.assertRaises(BadClaim):
            result_of([])
        result_of(STATES)[0].append(1)
        self.assertEqual(([11], 4), result_of(STATES))


class EntriesTest(unittest.TestCase):
    def test_entry(self):
        for index, state in enumerate(STATES):
            self.assertEqual(state, entry(STATES, index))
        for index in (5, 6, HUGE):
            self.assertIsNone(entry(STATES, index))
        self.assertIsNone(entry([], 0))

    def test_due(self):
        for index, state in enumerate(STATES):
            self.assertEqual(state, due(ADD, [5, 6], STATES, index))
        for index in (5, 6, HUGE):
            self.assertIsNone(due(ADD, [5, 6], STATES, index))
        self.assertEqual(STATES[0], due(ADD, [5, 6], [], 0))
        self.assertIsNone(due(ADD, [5, 6], [], 1))
        self.assertEqual(STATES[0], due(ADD, [5, 6], [STATES[3]], 0))
        # The entry before it counts, also a wrong one.
        self.assertEqual(STATES[4], due(ADD, [5, 6], [STATES[3]], 1))
        self.assertEqual(STATES[3], due(ADD, [5, 6], STATES[:3], 3))
        self.assertIsNone(due(ADD, [5, 6], STATES[:3], 4))
        self.assertEqual((4, (), (), (), 7, (1, 9)), due(ADD, [], [STATES[0], (3, (9,), (), (), 7, (1,))], 2))

    def test_negative_indexes(self):
        for claim in (STATES, []):
            for index in (-1, -2, -5, -HUGE):
                with self.assertRaises(BadClaim):
                    entry(claim, index)
                with self.assertRaises(BadClaim):
                    due(ADD, [5, 6], claim, index)


class FirstFaultTest(unittest.TestCase):
    def test_right_claims(self):
        self.assertIsNone(first_fault(ADD, [5, 6], STATES))
        self.assertIsNone(first_fault([], [], STATES[:1]))
        self.assertIsNone(first_fault(counter(300), [], right_claim(counter(300), [], fuel=300)))

    def test_other_runs(self):
        self.assertEqual(1, first_fault(ADD, [4, 7], STATES))
        self.assertEqual(3, first_fault(ADD[:8] + [2, 45, 0, 3] + ADD[12:], [5, 6], STATES))
        self.assertEqual(1, first_fault([], [], STATES))

    def test_a_changed_state_at_each_place(self):
        for index, state in enumerate(STATES):
            for changed in changed_states(state):
                claim = STATES[:index] + [changed] + STATES[index + 1:]
                self.assertEqual(index, first_fault(ADD, [5, 6], claim))
                self.assertEqual(index, faults(ADD, [5, 6], claim)[0])

    def test_too_short_and_too_long(self):
        for size in range(1, 5):
            self.assertEqual(size, first_fault(ADD, [5, 6], STATES[:size]))
        for more in ([STATES[4]], [STATES[0]], [STATES[4], STATES[4]], STATES):
            self.assertEqual(5, first_fault(ADD, [5, 6], STATES + more))
        self.assertEqual(1, first_fault([], [], [STATES[0], STATES[0]]))
        self.assertEqual(1, first_fault(LOOP, [], STATES[:1]))
        self.assertEqual(3, first_fault(LOOP, [], STATES[:1] * 3))

    def test_empty(self):
        for image in (ADD, []):
            with self.assertRaises(BadClaim):
                first_fault(image, [5, 6], [])

    def test_beside_all_faults(self):
        source = random.Random(181)
        for _ in range(200):
            image = some_image(source, 8)
            claim = story(image, [1, 2], fuel=source.randrange(20))
            for _ in range(source.randrange(3)):
                index = source.randrange(len(claim))
                claim[index] = source.choice(changed_states(claim[index]))
            if source.random() < 0.2:
                claim.append(claim[-1])
            found = faults(image, [1, 2], claim)
            self.assertEqual(found[0] if found else None, first_fault(image, [1, 2], claim))


if __name__ == "__main__":
    unittest.main()
