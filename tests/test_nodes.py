"""Images and nodes: point [20], and the cells of [22]."""

import unittest

from plinth.nodes import Nodes, image_of, nodes_of
from tests.helpers import HUGE, cells


class NodesOfTest(unittest.TestCase):
    def test_in_order(self):
        rows = [(5, 35, 1, 2), (0, 46, 0, 5), (-3, -4, HUGE, -HUGE), (5, 1, 1, 1)]
        self.assertEqual(rows, nodes_of(cells(*rows)))
        self.assertEqual(cells(*rows), image_of(rows))

    def test_cells_left_over(self):
        for left in ([], [9], [9, 8], [9, 8, 7]):
            self.assertEqual([], nodes_of(left))
            self.assertEqual([(1, 2, 3, 4)], nodes_of([1, 2, 3, 4] + left))
        self.assertEqual([(1, 2, 3, 4), (9, 8, 7, 6)], nodes_of([1, 2, 3, 4, 9, 8, 7, 6]))

    def test_empty(self):
        self.assertEqual([], nodes_of([]))
        self.assertEqual([], image_of([]))

    def test_nodes_are_tuples_and_the_image_is_a_list(self):
        self.assertIsInstance(nodes_of([1, 2, 3, 4])[0], tuple)
        self.assertIsInstance(image_of(((1, 2, 3, 4),)), list)


class NodesTest(unittest.TestCase):
    def test_node(self):
        nodes = Nodes(cells((5, 35, 1, 2), (-1, 46, 0, 5)) + [7, 7, 7])
        self.assertEqual((35, 1, 2), nodes.node(5))
        self.assertEqual((46, 0, 5), nodes.node(-1))
        for number in (0, 1, 7, HUGE):
            self.assertIsNone(nodes.node(number))

    def test_last_node_of_a_number_counts(self):
        nodes = Nodes(cells((5, 1, 1, 1), (6, 2, 2, 2), (5, 3, 3, 3), (6, 4, 4, 4), (5, 5, 5, 5)))
        self.assertEqual((5, 5, 5), nodes.node(5))
        self.assertEqual((4, 4, 4), nodes.node(6))
        self.assertEqual(5, nodes.size())

    def test_size_and_iteration(self):
        rows = [(5, 1, 1, 1), (6, 2, 2, 2), (5, 3, 3, 3)]
        for left in ([], [1], [1, 2, 3]):
            nodes = Nodes(cells(*rows) + left)
            self.assertEqual(3, nodes.size())
            self.assertEqual(rows, list(nodes))
            self.assertEqual(rows, list(nodes))
        self.assertEqual(0, Nodes([]).size())
        self.assertEqual([], list(Nodes([1, 2, 3])))

    def test_cell(self):
        image = [10, 11, 12, 13, 14, 15]
        nodes = Nodes(image)
        for index in range(-6, 6):
            self.assertEqual(image[index], nodes.cell(index))
        for index in (6, 7, -7, -8, HUGE, -HUGE):
            self.assertEqual(0, nodes.cell(index))
        self.assertEqual(0, Nodes([]).cell(0))
        self.assertEqual(0, Nodes([]).cell(-1))

    def test_keeps_a_copy(self):
        image = [1, 2, 3, 4]
        nodes = Nodes(image)
        image[0] = 9
        image.extend([5, 6, 7, 8])
        self.assertEqual((2, 3, 4), nodes.node(1))
        self.assertEqual([(1, 2, 3, 4)], list(nodes))
        self.assertEqual(1, nodes.cell(0))
        self.assertEqual(4, nodes.cell(-1))
        self.assertEqual(0, nodes.cell(4))
        self.assertEqual(1, nodes.size())


if __name__ == "__main__":
    unittest.main()
