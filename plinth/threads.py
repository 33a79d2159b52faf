"""The table of an image: what a run can reach, where nops lead, certificates."""

from plinth.machine import is_operation
from plinth.nodes import image_of, nodes_of
from plinth.operations import BRANCH, CALL, CALL_IF_DEFINED, CELL, COMBINING, PUSH, SET, combined
from plinth.signs import is_capital

FIRST_FREE = 200


def table_of(image):
    """Returns the table: a dict from each number to the rest of the node that counts for it."""
    return {node[0]: node[1:] for node in nodes_of(image)}


def image_of_table(table):
    """Returns the image that a table is written back as."""
    return image_of([(number,) + table[number] for number in sorted(table)])


def is_fixed(number):
    """Tells whether a number is fixed; all others are free."""
    return 0 <= number < FIRST_FREE


def is_nop(table, number):
    """Tells whether a number has a node that does nothing."""
    return number in table and not is_operation(table[number][0])


def least(numbers):
    """Returns the least fixed number, or the least number if none is fixed."""
    fixed = [number for number in numbers if is_fixed(number)]
    return min(fixed or numbers)


def _callable(table):
    """Returns the numbers that `$` calls."""
    return [number for number in range(1, FIRST_FREE) if number in table]


def next_numbers(table, number):
    """Returns the numbers that are reachable because a number is."""
    if number not in table:
        return []
    operation, argument, successor = table[number]
    if operation == BRANCH:
        return [successor, argument]
    if operation == CALL_IF_DEFINED:
        return [successor] + _callable(table)
    if is_capital(operation):
        return [successor, operation]
    return [successor]


def reachable_in(table):
    """Returns the reachable numbers of a table in ascending order."""
    found = {0: True}
    waiting = [0]
    while waiting:
        number = waiting.pop()
        for following in next_numbers(table, number):
            if following not in found:
                found[following] = True
                waiting.append(following)
    return sorted(found)


def reachable(image):
    """Returns the reachable numbers of an image in ascending order."""
    return reachable_in(table_of(image))


def is_closed(image):
    """Tells whether no reachable node reads cells or goes to any node."""
    table = table_of(image)
    operations = [table[number][0] for number in reachable_in(table) if number in table]
    return CELL not in operations and CALL not in operations


def _end_of_walk(walk, number):
    """Returns the target of nops, which lead one to the other and then to a number."""
    return least(walk[walk.index(number):]) if number in walk else number


def targets_of(table):
    """Returns the targets of all nops of a table, a dict."""
    targets = {}
    for start in table:
        walk = {}
        number = start
        while is_nop(table, number) and number not in walk and number not in targets:
            walk[number] = True
            number = table[number][2]
        end = targets[number] if number in targets else _end_of_walk(list(walk), number)
        for passed in walk:
            targets[passed] = end
    return targets


def target(image, number):
    """Returns the number at which nops lead from a number."""
    return targets_of(table_of(image)).get(number, number)


class Comparison:
    """The tables of an old and a new image, which a certificate compares."""

    def __init__(self, old, new):
        self.old = table_of(old)
        self.new = table_of(new)
        self._targets = targets_of(self.old)

    def _arrival(self, number):
        """Returns where passing from an old number arrives, or None in a ring."""
        end = self._targets.get(number, number)
        return None if is_nop(self.old, end) else end

    def _passed(self, number):
        """Returns the old node at which passing arrives, or None."""
        return self.old.get(self._arrival(number))

    def demands(self, new_number, old_number):
        """Returns the pairs that a certificate with this pair needs by the
        conditions 1 to 3, or None if the pair meets none of them."""
        if new_number not in self.new:
            end = self._arrival(old_number)
            return None if end is None or end in self.old else []
        new_node = self.new[new_number]
        if is_nop(self.new, new_number):
            if not is_nop(self.old, old_number):
                return None
            return [(new_node[2], self.old[old_number][2])]
        old_node = self._passed(old_number)
        if old_node is None or not self._are_similar(new_node, old_node):
            return None
        return self._pairs_behind(new_node, old_node)

    def _are_similar(self, new_node, old_node):
        operation = new_node[0]
        if operation != old_node[0] or operation in (CELL, CALL):
            return False
        if operation in (PUSH, SET):
            return new_node[1] == old_node[1]
        if operation == CALL_IF_DEFINED:
            return _callable(self.new) == _callable(self.old)
        return True

    def _pairs_behind(self, new_node, old_node):
        operation = new_node[0]
        pairs = [(new_node[2], old_node[2])]
        if operation == BRANCH:
            pairs.append((new_node[1], old_node[1]))
        elif operation == CALL_IF_DEFINED:
            pairs.extend([(number, number) for number in _callable(self.new)])
        elif is_capital(operation):
            pairs.append((operation, operation))
        return pairs

    def folded(self, new_number, old_number):
        """Returns the pair that condition 4 needs, or None if it is not met."""
        new_node = self.new.get(new_number)
        one = self._passed(old_number)
        if new_node is None or one is None or new_node[0] != PUSH or one[0] != PUSH:
            return None
        other = self._passed(one[2])
        if other is None or other[0] != PUSH:
            return None
        last = self._passed(other[2])
        if last is None or last[0] not in COMBINING or new_node[1] != combined(last[0], one[1], other[1]):
            return None
        return (new_node[2], last[2])


def accepts(old, new, pairs):
    """Tells whether pairs are accepted as a certificate for two images."""
    comparison = Comparison(old, new)
    known = {tuple(pair): True for pair in pairs}
    for new_number, old_number in known:
        demands = comparison.demands(new_number, old_number)
        if demands is None or not all([pair in known for pair in demands]):
            if comparison.folded(new_number, old_number) not in known:
                return False
    return (0, 0) in known
