"""Runs as sequences of states in plain form."""

from plinth.machine import State, check_fuel
from plinth.nodes import Nodes
from plinth.operations import CALL_IF_DEFINED, CELL, GET, PUT, SET, TAKE, can_call
from plinth.signs import is_small

# How many integers an operation pops and pushes, by the code of its sign, in
# the order of the document's table. `$` is here as it is without a call.
_COUNTS = {
    35: (0, 1),
    43: (2, 1),
    45: (2, 1),
    42: (2, 1),
    60: (2, 1),
    126: (2, 1),
    64: (1, 1),
    33: (2, 0),
    61: (1, 0),
    44: (0, 1),
    46: (1, 0),
    38: (1, 1),
    95: (1, 0),
    34: (1, 2),
    92: (2, 2),
    63: (1, 0),
    40: (1, 0),
    36: (1, 1),
}


def start(image, numbers):
    """Returns the plain form of the state at the start of a run."""
    return State(image, numbers).plain()


def state_of(image, numbers, plain):
    """Returns the state that has a plain form, with no steps made."""
    at, stack, store, back, place, output = plain
    state = State(image, numbers)
    state.at = at
    state.stack = list(stack)
    state.store = {address: number for address, number in store}
    state.back = list(back)
    state.place = place
    state.output = list(output)
    return state


def next_state(image, numbers, state):
    """Returns the plain form after one step, or None behind the end."""
    following = state_of(image, numbers, state)
    if not following.step():
        return None
    return following.plain()


def state_after(image, numbers, steps):
    """Returns the plain form of the state after so many steps."""
    state = State(image, numbers)
    state.advance(fuel=steps)
    return state.plain()


def story(image, numbers, *, fuel):
    """Returns the plain forms of all states of a run with this fuel."""
    check_fuel(fuel)
    state = State(image, numbers)
    states = [state.plain()]
    while state.steps < fuel and state.step():
        states.append(state.plain())
    return states


def _counts(nodes, operation, top):
    if is_small(operation):
        return (0, 1)
    if operation == CALL_IF_DEFINED and can_call(nodes, top):
        return (1, 0)
    return _COUNTS.get(operation, (0, 0))


def _address_read(operation, top):
    if operation == GET:
        return top
    if is_small(operation):
        return operation
    return None


def _address_written(operation, argument, top):
    if operation == PUT:
        return top
    if operation == SET:
        return argument
    return None


def footprint(image, numbers, state):
    """Returns what the step from a state in plain form reads and changes."""
    at, stack, _, _, place, _ = state
    nodes = Nodes(image)
    node = nodes.node(at)
    if node is None:
        return None
    operation, argument, _ = node
    top = stack[-1] if stack else 0
    pops, pushes = _counts(nodes, operation, top)
    reads = _address_read(operation, top)
    writes = _address_written(operation, argument, top)
    takes = operation == TAKE and 0 <= place < len(numbers)
    cell = top if operation == CELL else None
    return (pops, pushes, reads, writes, takes, cell)
