"""Images that do the same in fewer steps, and certificates for them."""

from plinth.operations import BRANCH, COMBINING, DROP, NOP, PUSH, combined
from plinth.threads import (
    FIRST_FREE, Comparison, image_of_table, is_closed, is_fixed, is_nop, next_numbers, reachable_in, table_of,
    targets_of,
)


def _redirected(node, targets):
    """Returns a node that goes straight to where nops would lead it."""
    operation, argument, successor = node
    if operation == BRANCH:
        argument = targets.get(argument, argument)
    return (operation, argument, targets.get(successor, successor))


def _threaded(table):
    targets = targets_of(table)
    changed = {}
    for number in table:
        end = targets.get(number, number)
        if end in table and not is_nop(table, end):
            changed[number] = _redirected(table[end], targets)
        else:
            changed[number] = (NOP, 0, end)
    return changed


def thread(image):
    """Returns the image without the ways over nops."""
    if not is_closed(image):
        return list(image)
    return image_of_table(_threaded(table_of(image)))


def _folded(table, node):
    operation, argument, successor = node
    if operation != PUSH or successor not in table:
        return node
    second = table[successor]
    if second[0] == PUSH and second[2] in table:
        third = table[second[2]]
        if third[0] in COMBINING:
            return (PUSH, combined(third[0], argument, second[1]), third[2])
    if second[0] == DROP:
        return (NOP, 0, second[2])
    if second[0] == BRANCH:
        return (NOP, 0, second[1] if argument == 0 else second[2])
    return node


def fold(image):
    """Returns the image with what can be computed beforehand."""
    if not is_closed(image):
        return list(image)
    table = table_of(image)
    return image_of_table({number: _folded(table, table[number]) for number in table})


def prune(image):
    """Returns the image without the nodes that no run reaches."""
    if not is_closed(image):
        return list(image)
    table = table_of(image)
    return image_of_table({number: table[number] for number in reachable_in(table) if number in table})


def _new_numbers(table):
    """Returns the new numbers of all reachable numbers, a dict."""
    queue = [number for number in reachable_in(table) if is_fixed(number)]
    names = {number: number for number in queue}
    free = FIRST_FREE
    place = 0
    while place < len(queue):
        passed = queue[place]
        place += 1
        # What is called has a fixed number, so it stands in the queue already.
        for number in next_numbers(table, passed):
            if number not in names:
                names[number] = free
                free += 1
                queue.append(number)
    return names


def _renamed(node, names):
    operation, argument, successor = node
    if operation == BRANCH:
        argument = names[argument]
    return (operation, argument, names[successor])


def renumber(image):
    """Returns the image with the free numbers in the order in which a run may meet them."""
    if not is_closed(image):
        return list(image)
    table = table_of(image)
    names = _new_numbers(table)
    return image_of_table({names[number]: _renamed(table[number], names) for number in names if number in table})


def trim(image):
    """Returns the image, threaded, folded, threaded and renumbered."""
    return renumber(thread(fold(thread(image))))


def certificate(image):
    """Returns the pairs which show that threading and pruning keep the runs."""
    if not is_closed(image):
        return []
    comparison = Comparison(image, prune(thread(image)))
    pairs = [(0, 0)]
    known = {(0, 0): True}
    place = 0
    while place < len(pairs):
        new_number, old_number = pairs[place]
        place += 1
        for pair in comparison.demands(new_number, old_number):
            if pair not in known:
                known[pair] = True
                pairs.append(pair)
    return pairs
