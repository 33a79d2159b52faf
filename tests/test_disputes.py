"""Disputes: points [182] to [184]."""

import random
import unittest

from plinth.claims import right_claim
from plinth.disputes import dispute, settle
from plinth.errors import BadClaim
from plinth.story import next_state, start
from tests.helpers import cells, counter, some_image

ADD = cells((0, 44, 0, 1), (1, 44, 0, 2), (2, 43, 0, 3), (3, 46, 0, 4))
RIGHT = [
    (0, (), (), (), 0, ()), (1, (5,), (), (), 1, ()), (2, (5, 6), (), (), 2, ()), (3, (11,), (), (), 2, ()),
    (4, (), (), (), 2, (11,)),
]
COUNTER = counter(20)
LONG = right_claim(COUNTER, [], fuel=20)


def spoiled(claim, *indexes):
    """A claim with other states at some indexes."""
    return [(99,) + state[1:] if at in indexes else state for at, state in enumerate(claim)]


def outputs(*numbers):
    """A claim whose states differ in their outputs alone."""
    return [(0, (), (), (), 0, (number,)) for number in numbers]


class DisputeTest(unittest.TestCase):
    def test_claims_that_agree(self):
        self.assertIsNone(dispute(ADD, [5, 6], RIGHT, RIGHT))
        for at in range(4):
            self.assertIsNone(dispute(ADD, [5, 6], RIGHT, spoiled(RIGHT, at)))
            self.assertIsNone(dispute(ADD, [5, 6], spoiled(RIGHT, 0), spoiled(RIGHT, at)))
        self.assertIsNone(dispute(ADD, [5, 6], spoiled(RIGHT, 4), spoiled(RIGHT, 4, 2)))

    def test_the_last_states_alone_differ(self):
        wrong = spoiled(RIGHT, 4)
        self.assertEqual((4, [1, 2, 3], False, True), dispute(ADD, [5, 6], RIGHT, wrong))
        self.assertEqual((4, [1, 2, 3], True, False), dispute(ADD, [5, 6], wrong, RIGHT))

    def test_they_part_at_the_beginning(self):
        wrong = spoiled(RIGHT, 0, 1, 2, 3, 4)
        self.assertEqual((0, [1, 0], False, True), dispute(ADD, [5, 6], RIGHT, wrong))
        self.assertEqual((0, [1, 0], True, True), dispute(ADD, [5, 6], outputs(1, 2, 3, 4, 5), wrong))
        self.assertEqual((0, [], True, False), dispute(ADD, [5, 6], [RIGHT[1]], [RIGHT[0]]))
        self.assertEqual((0, [], True, True), dispute(ADD, [5, 6], [RIGHT[1]], [RIGHT[2]]))
        self.assertEqual((0, [0], True, False), dispute(ADD, [5, 6], [RIGHT[1]], RIGHT))

    def test_they_part_in_the_middle(self):
        self.assertEqual((2, [1, 2], False, True), dispute(ADD, [5, 6], RIGHT, spoiled(RIGHT, 2, 4)))
        self.assertEqual((3, [1, 2, 3], True, False), dispute(ADD, [5, 6], spoiled(RIGHT, 3, 4), RIGHT))
        # Which of several places is found depends on what is asked.
        self.assertEqual((1, [1, 0], False, True), dispute(ADD, [5, 6], RIGHT, spoiled(RIGHT, 1, 2, 4)))
        self.assertEqual((4, [1, 2, 3], False, True), dispute(ADD, [5, 6], RIGHT, spoiled(RIGHT, 0, 4)))

    def test_they_part_at_the_end_of_the_shorter_claim(self):
        self.assertEqual((3, [1, 2], True, False), dispute(ADD, [5, 6], RIGHT[:3], RIGHT))
        self.assertEqual((3, [1, 2], False, True), dispute(ADD, [5, 6], RIGHT, RIGHT[:3]))
        self.assertEqual((5, [2, 3, 4], False, True), dispute(ADD, [5, 6], RIGHT, RIGHT + RIGHT))
        self.assertEqual((4, [1, 2, 3], False, True), dispute(ADD, [5, 6], RIGHT, RIGHT[:4]))
        self.assertEqual((1, [0], True, False), dispute(ADD, [5, 6], RIGHT[:1], RIGHT))

    def test_both_are_blamed(self):
        first, second = spoiled(RIGHT, 4), RIGHT[:4] + outputs(7)
        self.assertEqual((4, [1, 2, 3], True, True), dispute(ADD, [5, 6], first, second))
        # Behind a common wrong entry the one that is due behind it counts.
        wrong = [RIGHT[0], (3, (9,), (), (), 1, ()), (4, (), (), (), 1, (9,))]
        self.assertEqual((2, [0, 1], False, True), dispute(ADD, [5, 6], wrong, wrong[:2] + RIGHT[2:3]))
        self.assertEqual((3, [1, 2], False, True), dispute(ADD, [5, 6], wrong, wrong + [RIGHT[4]]))
        self.assertEqual((2, [0, 1], True, False), dispute(ADD, [5, 6], wrong[:2], wrong))

    def test_the_questions(self):
        self.assertEqual((20, [9, 14, 17, 18, 19], False, True), dispute(COUNTER, [], LONG, spoiled(LONG, 20)))
        wrong = spoiled(LONG, *range(7, 21))
        self.assertEqual((7, [9, 4, 6, 7], False, True), dispute(COUNTER, [], LONG, wrong))
        self.assertEqual((7, [10, 4, 7, 5, 6], False, True), dispute(COUNTER, [], LONG, wrong + wrong))
        for size in range(1, 21):
            for first, second in ((LONG[:size], LONG), (LONG[:size], spoiled(LONG[:size], size - 1))):
                asked = dispute(COUNTER, [], first, second)[1]
                self.assertLessEqual(len(asked), size.bit_length())
                self.assertEqual(len(asked), len(set(asked)))

    def test_empty_claims(self):
        for first, second in (([], RIGHT), (RIGHT, []), ([], [])):
            with self.assertRaises(BadClaim):
                dispute(ADD, [5, 6], first, second)

    def test_verdicts(self):
        source = random.Random(183)
        tested = 0
        while tested < 200:
            image = some_image(source, 8)
            right = right_claim(image, [1, 2], fuel=30)
            if right is None:
                continue
            tested += 1
            claims = [right, some_claim(source, right), some_claim(source, right)]
            for first in claims:
                for second in claims:
                    self.check(image, first, second, right)

    def check(self, image, first, second, right):
        found = dispute(image, [1, 2], first, second)
        if len(first) == len(second) and first[-1] == second[-1]:
            self.assertIsNone(found)
            return
        high, asked, blames_first, blames_second = found
        ones, others = first + [None], second + [None]
        self.assertNotEqual(ones[high], others[high])
        due = start(image, [1, 2])
        if high > 0:
            self.assertEqual(ones[high - 1], others[high - 1])
            due = next_state(image, [1, 2], ones[high - 1])
        self.assertEqual((ones[high] != due, others[high] != due), (blames_first, blames_second))
        self.assertTrue(blames_first or blames_second)
        self.assertFalse(blames_first and first == right or blames_second and second == right)
        self.assertTrue(blames_second or first != right)
        self.assertTrue(blames_first or second != right)
        self.assertLessEqual(len(asked), min(len(first), len(second)).bit_length())


def some_claim(source, right):
    """A claim that is like the right one, or the right one."""
    claim = list(right)
    for _ in range(source.randrange(4)):
        deed, at = source.randrange(4), source.randrange(len(claim))
        if deed == 0:
            claim[at:] = spoiled(claim[at:], *range(len(claim)))
        elif deed == 1:
            claim = claim[:at + 1]
        elif deed == 2:
            claim = claim + claim[at:]
        else:
            claim = spoiled(claim, at)
    return claim


class SettleTest(unittest.TestCase):
    def settled(self, *claims):
        return settle(ADD, [5, 6], list(claims))

    def test_no_dispute(self):
        self.assertEqual(([], []), self.settled())
        self.assertEqual(([0], []), self.settled(RIGHT))
        self.assertEqual(([0], []), self.settled(spoiled(RIGHT, 4)))
        self.assertEqual(([0, 1, 2], []), self.settled(RIGHT, spoiled(RIGHT, 1), RIGHT))
        self.assertEqual(([0, 1], []), self.settled(spoiled(RIGHT, 4), spoiled(RIGHT, 4, 1)))

    def test_one_right_claim(self):
        wrong, short = spoiled(RIGHT, 4), RIGHT[:3]
        self.assertEqual(([0], [(0, 1)]), self.settled(RIGHT, wrong))
        self.assertEqual(([1], [(0, 1)]), self.settled(wrong, RIGHT))
        self.assertEqual(([0], [(0, 1), (0, 2)]), self.settled(RIGHT, wrong, short))
        self.assertEqual(([2], [(0, 2), (1, 2)]), self.settled(wrong, spoiled(RIGHT, 2, 4), RIGHT))
        self.assertEqual(([2], [(0, 1), (1, 2)]), self.settled(short, RIGHT + RIGHT, RIGHT))

    def test_several_right_claims(self):
        wrong = spoiled(RIGHT, 4)
        self.assertEqual(([0, 2, 3], [(0, 1), (0, 4), (2, 4), (3, 4)]), self.settled(RIGHT, wrong, RIGHT, RIGHT, wrong))
        self.assertEqual(([1, 2], [(0, 1)]), self.settled(wrong, RIGHT, RIGHT))

    def test_no_right_claim(self):
        first, second = spoiled(RIGHT, 4), RIGHT[:4] + outputs(7)
        # Both are blamed, so the group is empty and the next claim joins it.
        self.assertEqual(([], [(0, 1)]), self.settled(first, second))
        self.assertEqual(([2], [(0, 1)]), self.settled(first, second, first))
        self.assertEqual(([2, 3], [(0, 1)]), self.settled(first, second, second, second))
        self.assertEqual(([0], [(0, 1)]), self.settled([RIGHT[0]], [RIGHT[1]]))
        self.assertEqual(([1], [(0, 1)]), self.settled([RIGHT[1]], [RIGHT[0]]))

    def test_a_part_of_the_group_is_blamed(self):
        # They agree, but only one of them is right where the new claim parts.
        other = spoiled(RIGHT, 2)
        new = RIGHT[:4] + outputs(7)
        self.assertEqual((4, [1, 2, 3], False, True), dispute(ADD, [5, 6], RIGHT, new))
        self.assertEqual((2, [1, 2], True, False), dispute(ADD, [5, 6], other, new))
        self.assertEqual(([0], [(0, 2), (1, 2)]), self.settled(RIGHT, other, new))
        self.assertEqual(([1], [(0, 2), (1, 2)]), self.settled(other, RIGHT, new))
        self.assertEqual(([1, 3], [(0, 2), (1, 2)]), self.settled(other, RIGHT, new, RIGHT))

    def test_empty_claims(self):
        for claims in ([[]], [RIGHT, []], [[], RIGHT], [RIGHT, spoiled(RIGHT, 4), []]):
            with self.assertRaises(BadClaim):
                settle(ADD, [5, 6], claims)

    def test_right_claims_stay(self):
        source = random.Random(184)
        tested = 0
        while tested < 100:
            image = some_image(source, 8)
            right = right_claim(image, [1, 2], fuel=30)
            if right is None or len(right) < 3:
                continue
            tested += 1
            claims = [some_claim(source, right) for _ in range(6)] + [right]
            source.shuffle(claims)
            group, disputes = settle(image, [1, 2], claims)
            rights = [at for at, claim in enumerate(claims) if claim == right]
            self.assertEqual(rights, [at for at in group if claims[at] == right])
            for at in group:
                self.assertEqual((len(right), right[-1]), (len(claims[at]), claims[at][-1]))
            for one, other in disputes:
                self.assertLess(one, other)
                verdict = dispute(image, [1, 2], claims[one], claims[other])
                self.assertFalse(verdict[2] and one in rights or verdict[3] and other in rights)
                self.assertNotIn(one if other in rights else None, group)
                self.assertNotIn(other if one in rights else None, group)


if __name__ == "__main__":
    unittest.main()
