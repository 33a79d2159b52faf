"""Images and their nodes."""


def nodes_of(image):
    """Returns all nodes of an image as tuples of four integers."""
    return [tuple(image[start:start + 4]) for start in range(0, len(image) - 3, 4)]


def image_of(nodes):
    """Returns the image that consists of the given nodes."""
    return [cell for node in nodes for cell in node]


class Nodes:
    """The nodes and the cells of an image."""

    def __init__(self, image):
        self._cells = list(image)
        self._rows = nodes_of(image)
        # A later node of the same number replaces an earlier one.
        self._table = {row[0]: row[1:] for row in self._rows}

    def node(self, number):
        """Returns what the node that counts for a number has, or None."""
        return self._table.get(number)

    def cell(self, index):
        """Returns the cell that the operation `&` pushes for an index."""
        if -len(self._cells) <= index < len(self._cells):
            return self._cells[index]
        return 0

    def size(self):
        """Returns the number of all nodes, also of those that do not count."""
        return len(self._rows)

    def __iter__(self):
        return iter(self._rows)
