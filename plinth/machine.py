"""The machine: a state that goes through a run, and whole runs."""

from plinth.errors import BadFuel
from plinth.nodes import Nodes
from plinth.operations import can_call, combined
from plinth.signs import is_capital, is_small


def check_fuel(fuel):
    """Raises BadFuel if a fuel, or a number of steps, is negative."""
    if fuel < 0:
        raise BadFuel("the fuel is negative")


# Each function below does what one operation does to a state that already
# stands at the successor of the node (operation, argument, successor).


def _push_argument(state, node):
    state.stack.append(node[1])


def _combine(state, node):
    y = state.popped()
    x = state.popped()
    state.stack.append(combined(node[0], x, y))


def _get(state, _):
    state.push_stored(state.popped())


def _put(state, _):
    address = state.popped()
    state.store[address] = state.popped()


def _set_argument(state, node):
    state.store[node[1]] = state.popped()


def _take_number(state, _):
    # No run has a negative place, but a false claim may have one.
    if 0 <= state.place < len(state.numbers):
        state.stack.append(state.numbers[state.place])
        state.place += 1
    else:
        state.stack.append(-1)


def _rewind(state, _):
    state.place = 0


def _write(state, _):
    state.output.append(state.popped())


def _push_cell(state, _):
    state.stack.append(state.nodes.cell(state.popped()))


def _drop(state, _):
    state.popped()


def _double(state, _):
    x = state.popped()
    state.stack.extend([x, x])


def _exchange(state, _):
    y = state.popped()
    x = state.popped()
    state.stack.extend([y, x])


def _branch(state, node):
    if state.popped() == 0:
        state.at = node[1]


def _call_popped(state, _):
    state.call(state.popped())


def _call_if_defined(state, _):
    number = state.popped()
    if can_call(state.nodes, number):
        state.call(number)
    else:
        state.stack.append(number)


def _return(state, _):
    if state.back:
        state.at = state.back.pop()


# The keys are the codes of the signs, in the order of the document's table.
_ACTIONS = {
    35: _push_argument,
    43: _combine,
    45: _combine,
    42: _combine,
    60: _combine,
    126: _combine,
    64: _get,
    33: _put,
    61: _set_argument,
    44: _take_number,
    94: _rewind,
    46: _write,
    38: _push_cell,
    95: _drop,
    34: _double,
    92: _exchange,
    63: _branch,
    40: _call_popped,
    36: _call_if_defined,
    41: _return,
}


def is_operation(code):
    """Tells whether a code is one of the machine's operations."""
    return code in _ACTIONS or is_small(code) or is_capital(code)


class State:
    """A state of the run of an image on an input."""

    def __init__(self, image, numbers):
        self.nodes = Nodes(image)
        self.numbers = list(numbers)
        self.at = 0
        self.stack = []
        self.store = {}
        self.back = []
        self.place = 0
        self.output = []
        self.steps = 0

    def popped(self):
        """Pops an integer; an empty stack gives 0."""
        return self.stack.pop() if self.stack else 0

    def push_stored(self, address):
        """Pushes the integer that the store has at an address."""
        self.stack.append(self.store.get(address, 0))

    def call(self, number):
        """Goes to a number, from which a return comes back to `at`."""
        self.back.append(self.at)
        self.at = number

    def perform(self, node):
        """Performs the operation of a node, with `at` at its successor."""
        operation = node[0]
        if operation in _ACTIONS:
            action = _ACTIONS[operation]
            action(self, node)
        elif is_small(operation):
            self.push_stored(operation)
        elif is_capital(operation):
            self.call(operation)

    def has_ended(self):
        """Tells whether no node has the number `at`."""
        return self.nodes.node(self.at) is None

    def step(self):
        """Makes a step, and tells whether there was one to make."""
        node = self.nodes.node(self.at)
        if node is None:
            return False
        self.at = node[2]
        self.steps += 1
        self.perform(node)
        return True

    def advance(self, *, fuel):
        """Makes at most `fuel` steps and returns how many it made."""
        check_fuel(fuel)
        made = 0
        while made < fuel and self.step():
            made += 1
        return made

    def plain(self):
        """Returns the plain form of the state."""
        addresses = [address for address in sorted(self.store) if self.store[address] != 0]
        store = [(address, self.store[address]) for address in addresses]
        return (self.at, tuple(self.stack), tuple(store), tuple(self.back), self.place, tuple(self.output))


def run(image, numbers, *, fuel):
    """Runs an image: whether it has ended, the output, and the steps."""
    state = State(image, numbers)
    made = state.advance(fuel=fuel)
    return (state.has_ended(), list(state.output), made)
