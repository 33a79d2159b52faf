"""Saved runs and trials: points [220] to [224]."""

import random
import unittest

from plinth.errors import BadFuel, BadSave
from plinth.machine import State, run
from plinth.saves import Trial, checksum, continued, fault_at, load, save, tried, tried_twice
from plinth.story import start, state_after, story
from tests.helpers import HUGE, cells, counter, some_image

IMAGE = [0, 44, 0, 1]
START = (0, (), (), (), 0, ())
BODY = [4, 0, 44, 0, 1, 1, 5, 0, 0, 0, 0, 0, 0, 0]
# A state in which all parts have something.
FULL = (-3, (1, -2), ((-9, 4), (0, -1), (HUGE, 2)), (70,), 6, (8, 0, -8))
FULL_BODY = [5, 0, 44, 0, 1, 9, 2, 5, -5, 17, -3, 6, 2, 1, -2, 1, 70, 3, 8, 0, -8, 3, -9, 4, 0, -1, HUGE, 2]


def summed(body):
    """The checksum, found in another way."""
    total = 31 ** len(body)
    for at, number in enumerate(reversed(body)):
        total += 31 ** at * number
    return total % 1000003


def with_checksum(body):
    return [7, summed(body)] + body


class SaveTest(unittest.TestCase):
    def test_checksum(self):
        for body, expected in (([], 1), ([0], 31), ([5], 36), ([-31], 0), ([-32], 1000002), ([1, 2], 994),
                               ([1000003], 31), ([HUGE], (31 + HUGE) % 1000003)):
            self.assertEqual(expected, checksum(body))
        source = random.Random(221)
        for _ in range(100):
            pool = [0, 1, -1, HUGE, -HUGE, source.randrange(10 ** 7)]
            body = [source.choice(pool) for _ in range(source.randrange(9))]
            self.assertEqual(summed(body), checksum(body))
            if body:
                at = source.randrange(len(body))
                changed = list(body)
                changed[at] += source.choice([1, -1, 31, 1000002, HUGE // 10])
                self.assertNotEqual(checksum(body), checksum(changed))
                changed[at] = body[at] + source.choice([1000003, -1000003, 7 * 1000003])
                self.assertEqual(checksum(body), checksum(changed))

    def test_the_example(self):
        self.assertEqual([7, summed(BODY)] + BODY, save(IMAGE, [5], START))
        self.assertEqual(START, start(IMAGE, [5]))
        self.assertEqual(save(IMAGE, [5], START, steps=0), save(IMAGE, [5], START))

    def test_all_parts(self):
        self.assertEqual(with_checksum(FULL_BODY), save([0, 44, 0, 1, 9], [5, -5], FULL, steps=17))
        self.assertEqual(with_checksum([0] * 9), save([], [], START))
        self.assertEqual(with_checksum([0, 0, HUGE] + [0] * 6), save([], [], START, steps=HUGE))

    def test_bad_fuel(self):
        for steps in (-1, -HUGE):
            with self.assertRaises(BadFuel):
                save(IMAGE, [5], START, steps=steps)

    def test_load(self):
        self.assertEqual((IMAGE, [5], START, 0), load(with_checksum(BODY)))
        self.assertEqual(([0, 44, 0, 1, 9], [5, -5], FULL, 17), load(with_checksum(FULL_BODY)))
        self.assertEqual(([], [], START, 0), load(save([], [], START)))
        source = random.Random(220)
        for _ in range(100):
            image, numbers = some_image(source, 6), [source.randrange(-3, 99) for _ in range(source.randrange(4))]
            state = source.choice(story(image, numbers, fuel=30))
            steps = source.choice([0, 1, HUGE])
            saved = save(image, numbers, state, steps=steps)
            self.assertIsNone(fault_at(saved))
            self.assertEqual((image, numbers, state, steps), load(saved))


class FaultTest(unittest.TestCase):
    def check(self, at, saved):
        self.assertEqual(at, fault_at(saved))
        if at is None:
            load(saved)
            return
        for call in (load, lambda one: continued(one, fuel=5), lambda one: continued(one, fuel=-1)):
            with self.assertRaises(BadSave) as caught:
                call(saved)
            self.assertEqual(at, caught.exception.at)

    def test_the_examples(self):
        self.check(0, [])
        self.check(0, [8])
        self.check(1, [7])
        self.check(2, [7, 1, 2, 0])

    def test_whole(self):
        for body in (BODY, FULL_BODY, [0] * 9):
            self.check(None, with_checksum(body))

    def test_the_mark(self):
        for mark in (0, -7, 8, HUGE):
            self.check(0, [mark] + with_checksum(BODY)[1:])
            self.check(0, [mark])

    def test_cut_off(self):
        # A row that is cut off has its fault at its count, which is then too great.
        counts = {2: 5, 8: 2, 14: 2, 17: 1, 19: 3}
        whole = with_checksum(FULL_BODY)
        for size in range(len(whole)):
            at = size
            for count, many in counts.items():
                if count < size <= count + many:
                    at = count
            if 23 < size < 30:
                at = 23
            self.check(at, whole[:size])

    def test_negative_counts(self):
        whole = with_checksum(FULL_BODY)
        for at in (2, 8, 11, 13, 14, 17, 19, 23):
            for number in (-1, -HUGE):
                self.check(at, whole[:at] + [number] + whole[at + 1:])
                self.check(at, whole[:at] + [number])

    def test_counts_that_are_too_great(self):
        whole = with_checksum(FULL_BODY)
        for at in (2, 8, 14, 17, 19):
            for number in (len(whole) - at, HUGE):
                self.check(at, whole[:at] + [number] + whole[at + 1:])
            # As many as all entries behind it can stand; the next part is missing then.
            self.check(len(whole), whole[:at] + [len(whole) - at - 1] + whole[at + 1:])
        # Three pairs need six entries, and four pairs eight.
        for number in (4, HUGE):
            self.check(23, whole[:23] + [number] + whole[24:])
        self.check(23, whole[:23] + [4] + whole[24:] + [HUGE + 1])
        self.check(None, with_checksum(FULL_BODY[:21] + [4] + FULL_BODY[22:] + [HUGE + 1, 5]))

    def test_numbers_that_may_be_anything(self):
        for at in (3, 7, 9, 10, 12, 15, 16, 18, 20, 22):
            for number in (-HUGE, -1, 0, HUGE):
                self.check(None, with_checksum(FULL_BODY[:at - 2] + [number] + FULL_BODY[at - 1:]))
        for number in (0, 1, HUGE):
            self.check(None, with_checksum(FULL_BODY[:9] + [number] + FULL_BODY[10:]))
            self.check(None, with_checksum(FULL_BODY[:11] + [number] + FULL_BODY[12:]))

    def test_addresses(self):
        whole = with_checksum(FULL_BODY)
        self.check(None, with_checksum(FULL_BODY[:22] + [-HUGE] + FULL_BODY[23:]))
        self.check(26, whole[:26] + [-9] + whole[27:])
        self.check(26, whole[:26] + [-HUGE] + whole[27:])
        self.check(26, whole[:24] + [0] + whole[25:])
        self.check(28, whole[:28] + [0] + whole[29:])
        self.check(28, whole[:28] + [-8] + whole[29:])
        self.check(28, whole[:26] + [HUGE] + whole[27:])

    def test_integers_of_the_store(self):
        whole = with_checksum(FULL_BODY)
        for at in (25, 27, 29):
            self.check(at, whole[:at] + [0] + whole[at + 1:])
            for number in (-HUGE, HUGE):
                self.check(None, with_checksum(FULL_BODY[:at - 2] + [number] + FULL_BODY[at - 1:]))
        # The first fault counts.
        self.check(25, whole[:25] + [0] + whole[26:28] + [-100, 0])

    def test_entries_left_over(self):
        for body in (BODY, FULL_BODY, [0] * 9):
            for more in ([0], [7], [0, 0, 0], [-1]):
                self.check(len(body) + 2, with_checksum(body) + more)
                self.check(len(body) + 2, with_checksum(body + more))

    def test_wrong_checksums(self):
        for body in (BODY, FULL_BODY):
            for number in (0, -1, summed(body) + 1, summed(body) + 1000003, summed(body) - 1000003, HUGE):
                self.check(1, [7, number] + body)
        # Other faults come first.
        self.check(2, [7, 0, -1])
        self.check(len(BODY) + 2, [7, 0] + BODY + [0])

    def test_any_one_entry_changed(self):
        for body in (BODY, FULL_BODY):
            whole = with_checksum(body)
            for at in range(len(whole)):
                for more in (1, -1, 1000, -HUGE):
                    changed = whole[:at] + [whole[at] + more] + whole[at + 1:]
                    self.assertIsNotNone(fault_at(changed))


class ContinuedTest(unittest.TestCase):
    def test_one_step(self):
        saved = save(IMAGE, [5], START)
        self.assertEqual((save(IMAGE, [5], (1, (5,), (), (), 1, ()), steps=1), True), continued(saved, fuel=1))
        self.assertEqual((save(IMAGE, [5], (1, (5,), (), (), 1, ()), steps=1), True), continued(saved, fuel=HUGE))
        self.assertEqual((saved, False), continued(saved, fuel=0))
        ended = continued(saved, fuel=1)[0]
        self.assertEqual((ended, True), continued(ended, fuel=9))
        self.assertEqual((save([], [], START), True), continued(save([], [], START), fuel=0))

    def test_in_several_pieces(self):
        source = random.Random(223)
        for _ in range(100):
            image, numbers = some_image(source, 8), [3, 0, 70]
            saved = save(image, numbers, start(image, numbers))
            steps = 0
            for fuel in (0, 1, 5, 2, 9):
                saved, ended = continued(saved, fuel=fuel)
                steps += fuel
                whole = continued(save(image, numbers, start(image, numbers)), fuel=steps)
                self.assertEqual(whole, (saved, ended))
                has_ended, output, made = run(image, numbers, fuel=steps)
                self.assertEqual((image, numbers, state_after(image, numbers, steps), made), load(saved))
                self.assertEqual((has_ended, tuple(output)), (ended, load(saved)[2][5]))

    def test_a_state_that_no_run_reaches(self):
        state = (0, (4,), ((3, 9),), (70,), 99, (1,))
        saved = continued(save(IMAGE, [5], state, steps=7), fuel=9)[0]
        self.assertEqual((IMAGE, [5], (1, (4, -1), ((3, 9),), (70,), 99, (1,)), 8), load(saved))

    def test_bad_fuel(self):
        for fuel in (-1, -HUGE):
            with self.assertRaises(BadFuel):
                continued(save(IMAGE, [5], START), fuel=fuel)
            with self.assertRaises(BadSave):
                continued([7], fuel=fuel)


class TrialTest(unittest.TestCase):
    def state(self):
        """A state in the middle of a run, in which all parts have something."""
        image = cells((0, 44, 0, 1), (1, 34, 0, 2), (2, 61, 97, 3), (3, 70, 0, 4), (70, 46, 0, 71), (71, 35, 7, 72),
                      (72, 44, 0, 73), (73, 41, 0, 0), (4, 46, 0, 0))
        state = State(image, [5, 6, 7])
        self.assertEqual(6, state.advance(fuel=6))
        self.assertEqual((72, (7,), ((97, 5),), (4,), 1, (5,)), state.plain())
        return state

    def same(self, state, before):
        self.assertEqual(before.plain(), state.plain())
        self.assertEqual(before.steps, state.steps)
        # It goes on as if nothing had happened, too.
        before.advance(fuel=5)
        state.advance(fuel=5)
        self.assertEqual((before.plain(), before.steps), (state.plain(), state.steps))

    def test_the_block(self):
        state = self.state()
        with Trial(state) as changed:
            self.assertIs(state, changed)
            self.assertEqual((self.state().plain(), 6), (changed.plain(), changed.steps))
            changed.advance(fuel=3)
            self.assertEqual(9, changed.steps)
        self.same(state, self.state())

    def test_each_part(self):
        def change_store(state):
            state.store[97] = 1
            state.store[3] = 4

        def replace_all(state):
            state.at, state.stack, state.store, state.back = 0, [1], {}, [2, 3]
            state.place, state.output, state.steps = 9, [], 0

        def clear_all(state):
            for part in (state.stack, state.store, state.back, state.output):
                part.clear()

        changes = [
            lambda state: setattr(state, "at", -1), lambda state: state.stack.append(1),
            lambda state: state.stack.pop(),
            change_store, lambda state: state.store.pop(97), lambda state: state.back.append(1),
            lambda state: state.back.insert(0, 1), lambda state: setattr(state, "place", 0),
            lambda state: state.output.append(1), lambda state: state.output.clear(),
            lambda state: setattr(state, "steps", 0), replace_all, clear_all,
        ]
        for change in changes:
            state = self.state()
            with Trial(state) as changed:
                change(changed)
                self.assertNotEqual((self.state().plain(), 6), (changed.plain(), changed.steps))
            self.same(state, self.state())

    def test_errors_leave_the_block(self):
        state = self.state()
        with self.assertRaises(ZeroDivisionError):
            with Trial(state) as changed:
                changed.advance(fuel=2)
                raise ZeroDivisionError
        self.same(state, self.state())
        state = self.state()
        with self.assertRaises(BadFuel):
            with Trial(state) as changed:
                changed.stack.clear()
                changed.advance(fuel=-1)
        self.same(state, self.state())

    def test_trials_within_trials(self):
        state = self.state()
        with Trial(state) as changed:
            changed.advance(fuel=2)
            middle = (changed.plain(), changed.steps)
            with Trial(changed) as inner:
                inner.advance(fuel=3)
                inner.stack.append(99)
            self.assertEqual(middle, (changed.plain(), changed.steps))
            with self.assertRaises(ZeroDivisionError):
                with Trial(state):
                    state.advance(fuel=1)
                    raise ZeroDivisionError
            self.assertEqual(middle, (changed.plain(), changed.steps))
        self.same(state, self.state())

    def test_a_trial_that_is_used_again(self):
        state = self.state()
        trial = Trial(state)
        with trial as changed:
            changed.advance(fuel=1)
            with trial:
                changed.advance(fuel=1)
            self.assertEqual(7, state.steps)
        self.assertEqual(6, state.steps)
        state.advance(fuel=1)
        with trial:
            state.advance(fuel=3)
        before = self.state()
        before.advance(fuel=1)
        self.same(state, before)

    def test_lists_that_others_know(self):
        state = self.state()
        stack, store, back, output = state.stack, state.store, state.back, state.output
        with Trial(state) as changed:
            changed.advance(fuel=5)
            for part in (changed.stack, changed.store, changed.back, changed.output):
                part.clear()
            for part in (stack, back, output):
                part.append(8)
            store[8] = 9
        self.same(state, self.state())
        self.assertEqual(([7, 8], {97: 5, 8: 9}, [4, 8], [5, 8]), (stack, store, back, output))

    def test_tried(self):
        for fuel in (0, 1, 2, 5, 100):
            state, after = self.state(), self.state()
            after.advance(fuel=fuel)
            self.assertEqual(after.plain(), tried(state, fuel=fuel))
            self.same(state, self.state())
        self.assertEqual(START, tried(State([], []), fuel=HUGE))
        self.assertEqual(state_after(counter(50), [], 50), tried(State(counter(50), []), fuel=HUGE))

    def test_tried_twice(self):
        for first in (0, 1, 4, 100):
            for second in (0, 1, 3, 100):
                state, one, two = self.state(), self.state(), self.state()
                one.advance(fuel=first)
                two.advance(fuel=first)
                two.advance(fuel=second)
                self.assertEqual((one.plain(), two.plain(), one.plain()),
                                 tried_twice(state, first=first, second=second))
                self.same(state, self.state())

    def test_bad_fuel(self):
        for fuel in (-1, -HUGE):
            state = self.state()
            with self.assertRaises(BadFuel):
                tried(state, fuel=fuel)
            self.same(state, self.state())
            for first, second in ((fuel, 0), (0, fuel), (2, fuel), (fuel, 2), (fuel, fuel)):
                state = self.state()
                with self.assertRaises(BadFuel):
                    tried_twice(state, first=first, second=second)
                self.same(state, self.state())


if __name__ == "__main__":
    unittest.main()
