"""Canonical images: numbers that nothing distinguishes become one."""

from plinth.operations import BRANCH, NOP, PUSH, SET
from plinth.threads import image_of_table, is_closed, is_fixed, is_nop, least, reachable_in, table_of
from plinth.trim import renumber, thread


def _marks(keys):
    """Returns small integers that are equal where the keys of a dict are."""
    seen = {}
    marks = {}
    for number in keys:
        marks[number] = seen.setdefault(keys[number], len(seen))
    return marks


def _first_key(table, number):
    if number not in table:
        return ("none",)
    if is_nop(table, number):
        return ("nop",)
    operation, argument, _ = table[number]
    return (operation, argument if operation in (PUSH, SET) else 0)


def _next_key(table, marks, number):
    if number not in table:
        return (marks[number],)
    operation, argument, successor = table[number]
    if operation == BRANCH:
        return (marks[number], marks[successor], marks[argument])
    return (marks[number], marks[successor])


def _groups(marks):
    """Returns the numbers that have equal marks together."""
    groups = {}
    for number in marks:
        groups.setdefault(marks[number], []).append(number)
    return list(groups.values())


def _classes(table):
    """Returns the classes, in ascending order of their least numbers."""
    numbers = reachable_in(table)
    marks = _marks({number: _first_key(table, number) for number in numbers})
    groups = _groups(marks)
    is_divided = True
    while is_divided:
        marks = _marks({number: _next_key(table, marks, number) for number in numbers})
        finer = _groups(marks)
        is_divided = len(finer) > len(groups)
        groups = finer
    return groups


def classes(image):
    """Returns the classes of the reachable numbers of a closed image."""
    return _classes(table_of(image)) if is_closed(image) else []


def _merged(node, heads, does_nothing):
    operation, argument, successor = node
    if does_nothing:
        return (NOP, 0, heads[successor])
    if operation == BRANCH:
        argument = heads[argument]
    elif operation not in (PUSH, SET):
        argument = 0
    return (operation, argument, heads[successor])


def merge(image):
    """Returns the image with one number in the place of each class."""
    if not is_closed(image):
        return list(image)
    table = table_of(image)
    heads = {}
    for alike in _classes(table):
        head = least(alike)
        heads.update({number: head for number in alike})
    kept = [number for number in heads if number in table and (is_fixed(number) or heads[number] == number)]
    return image_of_table({number: _merged(table[number], heads, is_nop(table, number)) for number in kept})


def canonical(image):
    """Returns the image, threaded, merged and renumbered."""
    return renumber(merge(thread(image)))
