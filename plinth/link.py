"""Linking: several images become one that executes them one after the other."""

from plinth.errors import NotLinkable
from plinth.nodes import image_of, nodes_of
from plinth.operations import BRANCH, CALL, CELL, NOP, RETURN
from plinth.signs import is_capital
from plinth.threads import FIRST_FREE, is_fixed


def _gets_name(number):
    """Tells whether a number gets a new name in a link."""
    return number == 0 or not is_fixed(number)


def _fits(node):
    number, operation, argument, successor = node
    if operation in (CELL, CALL) or not (_gets_name(number) or is_capital(number)):
        return False
    if operation == BRANCH and not _gets_name(argument):
        return False
    return _gets_name(successor) or operation == RETURN and successor == 1


def is_linkable(image):
    """Tells whether an image can be linked."""
    nodes = nodes_of(image)
    if not nodes or len(image) != 4 * len(nodes) or not all([_fits(node) for node in nodes]):
        return False
    _, operation, _, successor = nodes[-1]
    return operation == RETURN and not is_fixed(successor) and successor not in [node[0] for node in nodes]


def check_linkable(image):
    """Raises NotLinkable(0) if an image cannot be linked."""
    if not is_linkable(image):
        raise NotLinkable(0)


def exit_of(image):
    """Returns the exit of a linkable image."""
    check_linkable(image)
    return image[-1]


class Naming:
    """The names that the numbers of linked images get, one image after the other."""

    def __init__(self):
        self._names = {0: FIRST_FREE}
        self._unused = FIRST_FREE + 1

    def new_name(self, number):
        """Returns the name of a number of the image."""
        if not _gets_name(number):
            return number
        if number not in self._names:
            self._names[number] = self._unused
            self._unused += 1
        return self._names[number]

    def renamed(self, node):
        """Returns a node with names in the place of its numbers."""
        number, operation, argument, successor = node
        # The order in which numbers are met decides which names they get.
        number = self.new_name(number)
        if operation == BRANCH:
            argument = self.new_name(argument)
        return (number, operation, argument, self.new_name(successor))

    def go_on(self, end):
        """Goes on to the next image, which begins where this one ends."""
        self._names = {0: self._names[end]}


def link(images):
    """Returns the image that executes linkable images one after the other."""
    for at, image in enumerate(images):
        if not is_linkable(image):
            raise NotLinkable(at)
    if not images:
        return []
    naming = Naming()
    nodes = [(0, NOP, 0, FIRST_FREE)]
    for image in images:
        nodes.extend([naming.renamed(node) for node in nodes_of(image)])
        naming.go_on(exit_of(image))
    return image_of(nodes)
