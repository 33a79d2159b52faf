"""Checks that a call keeps its arguments and shares no list with them."""

import copy


def containers(value):
    """The numbers of all lists and dicts within a value.

    The values that are compared must still exist: another list may get the
    number of one that is gone."""
    if isinstance(value, dict):
        inner = list(value.keys()) + list(value.values())
    elif isinstance(value, (list, tuple)):
        inner = list(value)
    else:
        return set()
    found = set() if isinstance(value, tuple) else {id(value)}
    for part in inner:
        found |= containers(part)
    return found


def check_call(test, call, arguments, **more):
    """Calls twice; neither changes an argument or shares a list."""
    before = copy.deepcopy((arguments, more))
    one = call(*arguments, **more)
    other = call(*arguments, **more)
    test.assertEqual(before, (arguments, more), call)
    test.assertEqual(one, other, call)
    test.assertFalse(containers(one) & containers((arguments, list(more.values()))), call)
    test.assertFalse(containers(one) & containers(other), call)
    return one
