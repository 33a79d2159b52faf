"""Arguments stay as they are, and no result shares a list: point [0]."""

import unittest

from plinth import digits, machine, nodes, signs, story
from tests.helpers import cells
from tests.sharing import check_call, containers

IMAGE = cells((0, 44, 0, 1), (1, 34, 0, 2), (2, 61, 97, 3), (3, 46, 0, 4)) + [5, 6]
STATE = (1, (7,), ((3, 4),), (5,), 1, (6,))


class CopiesTest(unittest.TestCase):
    def test_signs(self):
        check_call(self, signs.codes_of, ["ab"])
        check_call(self, signs.text_of, [[97, 98]])
        check_call(self, signs.readable, [[97, 98]])
        check_call(self, signs.readable, [[97, -1, 98]])

    def test_nodes(self):
        check_call(self, nodes.nodes_of, [IMAGE])
        check_call(self, nodes.image_of, [[(1, 2, 3, 4), (5, 6, 7, 8)]])
        check_call(self, nodes.image_of, [[]])

    def test_machine(self):
        ended, output, steps = check_call(self, machine.run, [IMAGE, [7, 8]], fuel=9)
        self.assertEqual((True, [7], 4), (ended, output, steps))
        output.append(8)
        self.assertEqual((True, [7], 4), machine.run(IMAGE, [7, 8], fuel=9))

    def test_states(self):
        image, numbers = list(IMAGE), [7, 8]
        one, other = machine.State(image, numbers), machine.State(image, numbers)
        one.advance(fuel=9)
        self.assertEqual((IMAGE, [7, 8]), (image, numbers))
        mine = containers([one.stack, one.back, one.output, one.store])
        theirs = containers([other.stack, other.back, other.output, other.store])
        self.assertFalse(mine & theirs)

    def test_story(self):
        numbers = [7, 8]
        check_call(self, story.start, [IMAGE, numbers])
        check_call(self, story.next_state, [IMAGE, numbers, STATE])
        check_call(self, story.state_after, [IMAGE, numbers, 3])
        check_call(self, story.footprint, [IMAGE, numbers, STATE])
        self.assertEqual(5, len(check_call(self, story.story, [IMAGE, numbers], fuel=9)))

    def test_digits(self):
        check_call(self, digits.read_digits, [[49, 32, 50]])
        check_call(self, digits.write_digits, [[7, 12]])
        check_call(self, digits.write_digits, [[]])


if __name__ == "__main__":
    unittest.main()
