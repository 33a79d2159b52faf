"""Images turned back into the trees of which they are translations."""

from plinth.nodes import nodes_of
from plinth.operations import BRANCH, NOP, PUSH, RETURN, SET
from plinth.printing import write
from plinth.reading import Part
from plinth.signs import codes_of, is_capital, is_small
from plinth.translate import translate
from plinth.trees import MOST_DEEP, is_num, is_op


class Decoder:
    """Finds the items of a translation, node by node.

    It takes each node for the only thing that it can be in a translation;
    whether the image is a translation is left to `untranslate`."""

    def __init__(self):
        # The lists that are open, from the outermost list to the innermost,
        # and for each of them, but the outermost, the number on the pile.
        self._parts = [Part("")]
        self._pile = []

    def tree(self):
        """Returns the tree of the nodes so far, or None if a list is open."""
        return self._parts[0].inside if len(self._parts) == 1 else None

    def take(self, node, following):
        """Handles a node and tells whether it can be one of a translation;
        `following` is the number of the node behind it."""
        number, operation, argument, successor = node
        if len(self._parts) == 1 and is_capital(number):
            self._begin(Part(":", name=number), None)
        if operation == BRANCH:
            return self._take_branch(argument, successor)
        if operation == NOP:
            return self._take_nop(successor, following)
        if operation == RETURN:
            return self._end(":")
        return self._take_plain(operation, argument)

    def _innermost(self):
        return self._parts[-1].sign

    def _begin(self, part, number):
        self._parts.append(part)
        self._pile.append(number)
        return len(self._parts) <= MOST_DEEP

    def _end(self, *signs):
        if self._innermost() not in signs:
            return False
        self._pile.pop()
        return self._add(self._parts.pop().item())

    def _add(self, item):
        self._parts[-1].inside.append(item)
        return True

    def _take_branch(self, argument, successor):
        if self._innermost() == "{" and self._pile[-1] == successor:
            return self._end("{")
        return self._begin(Part("["), argument)

    def _take_nop(self, successor, following):
        if self._pile and self._pile[-1] == successor:
            return self._end("[", "|")
        if successor == following:
            return self._begin(Part("{"), successor)
        if self._innermost() != "[":
            return False
        self._parts[-1] = Part("|", before=self._parts[-1].inside)
        self._pile[-1] = successor
        return True

    def _take_plain(self, operation, argument):
        if operation == PUSH:
            return is_num(argument) and self._add(("num", argument))
        if operation == SET:
            return is_small(argument) and self._add(("put", argument))
        return is_op(operation) and self._add(("op", operation))


def _decoded(nodes):
    """Returns the tree that the nodes may be the translation of, or None."""
    decoder = Decoder()
    for at in range(1, len(nodes) - 1):
        if not decoder.take(nodes[at], nodes[at + 1][0]):
            return None
    return decoder.tree()


def _first_taken(nodes):
    """Returns the number that is taken first, if the nodes are a translation."""
    for _, operation, argument, successor in nodes[1:-1]:
        if operation == BRANCH:
            return argument
        # The return of a definition takes no number.
        if operation != RETURN:
            return successor
    return nodes[-1][3]


def untranslate(image):
    """Returns the tree and the numbers of which the image is the translation."""
    nodes = nodes_of(image)
    if len(nodes) < 2:
        return None
    first = nodes[0][3]
    by = _first_taken(nodes) - first
    if not (first >= 200 and by >= 1 or first <= -1 and by <= -1):
        return None
    tree = _decoded(nodes)
    if tree is None or translate(codes_of(write(tree)), first=first, by=by) != image:
        return None
    return (tree, first, by)
