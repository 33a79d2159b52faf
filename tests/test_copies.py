"""Arguments stay as they are, and no result shares a list: point [0]."""

import unittest

from plinth import digits, lists, machine, nodes, printing, reading, short, signs, story, translate, trees
from tests.helpers import cells
from tests.sharing import check_call, containers

IMAGE = cells((0, 44, 0, 1), (1, 34, 0, 2), (2, 61, 97, 3), (3, 46, 0, 4)) + [5, 6]
STATE = (1, (7,), ((3, 4),), (5,), 1, (6,))


class CopiesTest(unittest.TestCase):
    def test_signs(self):
        check_call(self, signs.codes_of, ["ab"])
        check_call(self, signs.text_of, [[97, 98]])
        check_call(self, signs.readable, [[97, 98]])
        check_call(self, signs.readable, [[97, -1, 98]])

    def test_nodes(self):
        check_call(self, nodes.nodes_of, [IMAGE])
        check_call(self, nodes.image_of, [[(1, 2, 3, 4), (5, 6, 7, 8)]])
        check_call(self, nodes.image_of, [[]])

    def test_machine(self):
        ended, output, steps = check_call(self, machine.run, [IMAGE, [7, 8]], fuel=9)
        self.assertEqual((True, [7], 4), (ended, output, steps))
        output.append(8)
        self.assertEqual((True, [7], 4), machine.run(IMAGE, [7, 8], fuel=9))

    def test_states(self):
        image, numbers = list(IMAGE), [7, 8]
        one, other = machine.State(image, numbers), machine.State(image, numbers)
        one.advance(fuel=9)
        self.assertEqual((IMAGE, [7, 8]), (image, numbers))
        mine = containers([one.stack, one.back, one.output, one.store])
        theirs = containers([other.stack, other.back, other.output, other.store])
        self.assertFalse(mine & theirs)

    def test_story(self):
        numbers = [7, 8]
        check_call(self, story.start, [IMAGE, numbers])
        check_call(self, story.next_state, [IMAGE, numbers, STATE])
        check_call(self, story.state_after, [IMAGE, numbers, 3])
        check_call(self, story.footprint, [IMAGE, numbers, STATE])
        self.assertEqual(5, len(check_call(self, story.story, [IMAGE, numbers], fuel=9)))

    def test_digits(self):
        check_call(self, digits.read_digits, [[49, 32, 50]])
        check_call(self, digits.write_digits, [[7, 12]])
        check_call(self, digits.write_digits, [[]])

    def test_short(self):
        check_call(self, short.translate_short, [[43, 39, 97, -1, 43]])
        check_call(self, short.translate_short, [[]])
        reader, piece = short.ShortReader(), [43, 39, 97]
        reader.feed(piece)
        self.assertEqual([43, 39, 97], piece)
        image, again = reader.image(), reader.image()
        self.assertFalse(containers(image) & containers([piece, again]))

    def test_lists(self):
        image = cells((0, 35, 5, 1), (1, 46, 0, 2))
        check_call(self, lists.listing, [image])
        check_call(self, lists.can_list, [image])
        check_call(self, lists.can_list, [image + [1]])

    def test_trees(self):
        tree = [("choose", [("num", 1)], [("loop", [])]), ("def", 70, [("num", 2), ("num", 3)]), ("def", 65, [])]
        check_call(self, trees.depth_of, [tree])
        check_call(self, trees.size_of, [tree])
        check_call(self, trees.defined_in, [tree])
        check_call(self, trees.defined_in, [[]])
        check_call(self, printing.write, [tree])

    def test_reading(self):
        tree = check_call(self, reading.read, ["[1|{}]:F2 3;[]{}"])
        self.assertEqual(7, len(containers(tree)))
        check_call(self, reading.read, [""])

    def test_translate(self):
        check_call(self, translate.translate, [[43, 49, 39, 97, -1, 43]])
        check_call(self, translate.translate, [[43]], first=-1, by=-1)
        check_call(self, translate.translate, [[]])
        one, other = translate.Translator(), translate.Translator()
        self.assertFalse(containers([one.image, one.pile]) & containers([other.image, other.pile]))
        image, again = one.finish(), one.finish()
        self.assertFalse(containers(image) & containers([one.image, again]))


if __name__ == "__main__":
    unittest.main()
