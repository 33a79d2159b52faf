"""Traps: points [160] to [165]."""

import random
import unittest

from plinth.errors import BadTrap, NotPlantable, NotPlanted
from plinth.machine import State, run
from plinth.rungs import rung_text
from plinth.traps import cleaned, plant, planted
from plinth.translate import translate
from tests.helpers import HUGE, cells, codes, some_tree, translated

B = 1000000
SMALL_IMAGE = cells((0, 32, 0, 200), (200, 35, 2, 201), (201, 46, 0, 202), (202, 41, 0, 203))
NOT_ALLOWED = [([], []), ([1] * 13, []), ([-1], []), ([127], []), ([5, 5, HUGE], []), ([1], [1]), ([1], [1, 2, 3]),
               ([1], [0] * 5), ([1], [0] * 25), ([1], [0] * 28), ([], [1])]
NOT_PLANTABLE = [
    [], [0], [0, 32, 0], SMALL_IMAGE + [1], SMALL_IMAGE[:-1], [1] + SMALL_IMAGE[1:], [0, 33, 0, 200], [0, 32, 1, 200],
    SMALL_IMAGE + [0, 32, 0, 200], SMALL_IMAGE + [0, 46, 7, 1], SMALL_IMAGE + [B, 32, 0, 1],
    SMALL_IMAGE + [HUGE, 32, 0, 1], SMALL_IMAGE + [5, 38, 0, 1], [5, 32, 0, 200] + SMALL_IMAGE,
]
PLANTABLE = [
    SMALL_IMAGE, [0, 32, 0, 0], [0, 32, 0, HUGE], SMALL_IMAGE + [B - 1, HUGE, -HUGE, HUGE],
    SMALL_IMAGE + [-1, 46, 38, 38],
    SMALL_IMAGE + [200, 35, 2, 0], SMALL_IMAGE + [-HUGE, 40, B, B],
]


def trap_cells(lure, extra):
    """The cells of a trap, node by node as [162] tells them."""
    nodes = [(0, 35, 3, B), (B, 38, 0, B + 1), (B + 1, 40, 0, B + 2), (B + 2, 94, 0, B + 3)]
    p = B + 3
    end = p + 4 * len(lure) + 2 * len(extra) + 9
    for c in lure:
        nodes += [(p, 44, 0, p + 1), (p + 1, 35, c, p + 2), (p + 2, 126, 0, p + 3), (p + 3, 63, end, p + 4)]
        p += 4
    for x in extra:
        nodes += [(p, 35, x, p + 1), (p + 1, 46, 0, p + 2)]
        p += 2
    nodes += [(p, 35, -4 * (len(nodes) + 10), p + 1), (p + 1, 34, 0, p + 2), (p + 2, 38, 0, p + 3),
              (p + 3, 46, 0, p + 4),
              (p + 4, 35, 1, p + 5), (p + 5, 43, 0, p + 6), (p + 6, 34, 0, p + 7), (p + 7, 63, p + 8, p + 1),
              (p + 8, 95, 0, end), (end, 41, 0, end + 1)]
    return cells(*nodes)


def some_extra(source, size):
    return [source.choice([0, 1, -1, 38, 200, HUGE, -HUGE]) for _ in range(size)]


class PlantTest(unittest.TestCase):
    def test_a_trap_of_one_number(self):
        expected = SMALL_IMAGE + cells(
            (0, 35, 3, B), (B, 38, 0, B + 1), (B + 1, 40, 0, B + 2), (B + 2, 94, 0, B + 3),
            (B + 3, 44, 0, B + 4), (B + 4, 35, 97, B + 5), (B + 5, 126, 0, B + 6), (B + 6, 63, B + 16, B + 7),
            (B + 7, 35, -72, B + 8), (B + 8, 34, 0, B + 9), (B + 9, 38, 0, B + 10), (B + 10, 46, 0, B + 11),
            (B + 11, 35, 1, B + 12), (B + 12, 43, 0, B + 13), (B + 13, 34, 0, B + 14), (B + 14, 63, B + 15, B + 8),
            (B + 15, 95, 0, B + 16), (B + 16, 41, 0, B + 17))
        self.assertEqual(expected, plant(SMALL_IMAGE, [97], []))

    def test_cell_by_cell(self):
        source = random.Random(162)
        for many in (1, 2, 11, 12):
            for size in (0, 4, 8, 24):
                lure = [source.choice([0, 126, source.randrange(127)]) for _ in range(many)]
                extra = some_extra(source, size)
                for image in PLANTABLE:
                    self.assertEqual(image + trap_cells(lure, extra), plant(image, lure, extra))

    def test_what_is_not_allowed(self):
        for lure, extra in NOT_ALLOWED:
            with self.assertRaises(BadTrap, msg=(lure, extra)):
                plant(SMALL_IMAGE, lure, extra)
        for image in NOT_PLANTABLE:
            with self.assertRaises(NotPlantable, msg=image):
                plant(image, [97], [1, 2, 3, 4])

    def test_the_order_of_the_errors(self):
        for image in NOT_PLANTABLE:
            for lure, extra in NOT_ALLOWED:
                with self.assertRaises(BadTrap):
                    plant(image, lure, extra)

    def test_translations_of_programs(self):
        source = random.Random(161)
        for _ in range(50):
            image = translated(some_tree(source), first=source.choice([200, 999000]))
            self.assertEqual(image + trap_cells([1], []), plant(image, [1], []))
            image = translated(some_tree(source), first=-1, by=-1)
            self.assertEqual(image + trap_cells([1], []), plant(image, [1], []))
        # The four nodes of the codes and the closing return have numbers from `first` on.
        image = translate([97] * 4, first=B - 5)
        self.assertEqual(image + trap_cells([1], []), plant(image, [1], []))
        with self.assertRaises(NotPlantable):
            plant(translate([97] * 4, first=B - 4), [1], [])
        with self.assertRaises(NotPlantable):
            plant(translate(codes("]")), [1], [])
        with self.assertRaises(NotPlantable):
            plant(translate(codes("a&")), [1], [])


class PlantedTest(unittest.TestCase):
    def test_planted(self):
        source = random.Random(165)
        for many in range(1, 13):
            for size in range(0, 25, 4):
                lure = [source.randrange(127) for _ in range(many)]
                extra = some_extra(source, size)
                for image in (SMALL_IMAGE, PLANTABLE[3]):
                    whole = plant(image, lure, extra)
                    self.assertEqual((lure, extra), planted(whole))
                    self.assertEqual(image, cleaned(whole))

    def not_planted(self, image):
        self.assertIsNone(planted(image))
        with self.assertRaises(NotPlanted):
            cleaned(image)

    def test_not_planted(self):
        for image in NOT_PLANTABLE + PLANTABLE:
            self.not_planted(image)
            self.not_planted(image + trap_cells([1], [])[:-4])
            self.not_planted(image + trap_cells([1], [])[4:])
            self.not_planted(image + trap_cells([1], []) + [0])
            self.not_planted(image + trap_cells([1], []) + SMALL_IMAGE)
        for image in NOT_PLANTABLE:
            self.not_planted(image + trap_cells([1, 2], [1, 2, 3, 4]))
        for lure, extra in NOT_ALLOWED:
            self.not_planted(SMALL_IMAGE + trap_cells(lure, extra))

    def test_traps_that_are_cut_off(self):
        whole = plant(SMALL_IMAGE, [1, 2], [5, 6, 7, 8])
        for size in range(len(SMALL_IMAGE), len(whole)):
            self.not_planted(whole[:size])
        # Nothing but the nodes of a lure, or of extra integers.
        for sign in (44, 46):
            for many in range(1, 14):
                nodes = [(B + at, sign, 0, B + at + 1) for at in range(many)]
                self.not_planted(SMALL_IMAGE + cells((0, 35, 3, B), *nodes))

    def test_planted_twice(self):
        once = plant(SMALL_IMAGE, [1], [])
        with self.assertRaises(NotPlantable):
            plant(once, [1], [])
        for lure in ([1], [2, 3]):
            self.not_planted(once + trap_cells(lure, []))

    def test_any_one_cell_changed(self):
        lure, extra = [97, 0], [5, 6, 7, 8]
        whole = plant(SMALL_IMAGE, lure, extra)
        for at in range(len(whole)):
            for number in (whole[at] + 1, -1 - whole[at], 38):
                if number == whole[at]:
                    continue
                changed = whole[:at] + [number] + whole[at + 1:]
                found = None
                for other_lure, other_extra in self.neighbours(lure, extra, number):
                    try:
                        if plant(changed[:len(SMALL_IMAGE)], other_lure, other_extra) == changed:
                            found = (other_lure, other_extra)
                    except (BadTrap, NotPlantable):
                        pass
                self.assertEqual(found, planted(changed), (at, number))
                if found is None:
                    self.not_planted(changed)
                else:
                    self.assertEqual(changed[:len(SMALL_IMAGE)], cleaned(changed))

    @staticmethod
    def neighbours(lure, extra, number):
        """Pairs of a lure and extra integers with at most one of them changed."""
        found = [(lure, extra)]
        found += [(lure[:at] + [number] + lure[at + 1:], extra) for at in range(len(lure))]
        return found + [(lure, extra[:at] + [number] + extra[at + 1:]) for at in range(len(extra))]


class RunsTest(unittest.TestCase):
    def test_runs(self):
        # The program copies its input, and -1 at the end, to the output.
        copier = translate(codes("{,\".0<0~}"))
        trap = trap_cells([5, 6, 7], [1, -2, 3, HUGE])
        image = plant(copier, [5, 6, 7], [1, -2, 3, HUGE])
        for numbers in ([], [5], [5, 6], [5, 6, 8], [5, 7, 6], [4, 6, 7], [0, 5, 6, 7], [6, 7], [5, 6, -1, 7],
                        [5, 6, -1]):
            ended, output, _ = run(image, numbers, fuel=9999)
            self.assertEqual((True, run(copier, numbers, fuel=9999)[1]), (ended, output), numbers)
        for rest in ([], [7], [-1], [-1, 5, 6, 7]):
            ended, output, _ = run(image, [5, 6, 7] + rest, fuel=9999)
            expected = run(copier, [5, 6, 7] + rest, fuel=9999)[1] + [1, -2, 3, HUGE] + trap
            self.assertEqual((True, expected), (ended, output))

    def test_lures_of_one_and_of_twelve_numbers(self):
        program = translate(codes("7."))
        for lure in ([0], [126], list(range(12))):
            for extra in ([], [1, 2, 3, 4]):
                image = plant(program, lure, extra)
                self.assertEqual((True, [7] + extra + trap_cells(lure, extra)), run(image, lure + [3], fuel=9999)[:2])
                self.assertEqual((True, [7]), run(image, lure[:-1], fuel=9999)[:2])
                self.assertEqual((True, [7]), run(image, lure[:-1] + [-1] + lure, fuel=9999)[:2])
                self.assertEqual((True, [7]), run(image, [], fuel=9999)[:2])

    def test_runs_of_programs(self):
        source = random.Random(164)
        tested = 0
        while tested < 100:
            image = translated(some_tree(source, small="abc", capital="F"))
            numbers = [source.randrange(3) for _ in range(source.randrange(5))]
            state = State(image, numbers)
            empty_returns = 0
            while state.steps < 300 and not state.has_ended():
                node = state.nodes.node(state.at)
                empty_returns += node[0] == 41 and not state.back
                returned = node[0] == 41
                state.step()
            if not state.has_ended() or not returned or empty_returns != 1:
                continue
            tested += 1
            lure = [source.randrange(3) for _ in range(source.randrange(1, 4))]
            whole = plant(image, lure, [9, 9, 9, 9])
            added = [9, 9, 9, 9] + trap_cells(lure, [9, 9, 9, 9]) if numbers[:len(lure)] == lure else []
            self.assertEqual((True, state.output + added), run(whole, numbers, fuel=9999)[:2])

    def test_a_planted_compiler_plants_again(self):
        for name, numbers in (("plain", {}), ("turned", {"first": -1, "by": -1})):
            text = codes(rung_text(name))
            compiler = translate(text)
            extra = [65, 35, 1, 66]
            whole = plant(compiler, text[:12], extra)
            ended, child, _ = run(whole, text, fuel=100000)
            due = translate(text, **numbers)
            self.assertEqual((True, due + extra + trap_cells(text[:12], extra)), (ended, child))
            self.assertEqual((text[:12], extra), planted(child))
            self.assertEqual(due + extra, cleaned(child))
            other = codes(":F1;F.")
            self.assertEqual((True, translate(other, **numbers)), run(whole, other, fuel=100000)[:2])
        whole = plant(compiler, text[:12], [])
        child = run(whole, text, fuel=100000)[1]
        self.assertEqual(plant(due, text[:12], []), child)
        self.assertEqual(child, run(child, text, fuel=100000)[1])
        self.assertEqual(due, cleaned(child))


if __name__ == "__main__":
    unittest.main()
