"""Origins: the places of an input on which the integers of the output depend."""

from plinth.machine import State, check_fuel
from plinth.operations import can_call
from plinth.signs import is_small

# A set of places is kept as an integer, whose bit k is 1 if the place k is in
# the set: lists and dicts hold no sets here.

# Each function below does to the sets of a trace what one operation, with its
# argument, is about to do to the integers.


def _push_nowhere(trace, _):
    trace.push(0)


def _unite(trace, _):
    trace.push(trace.popped() | trace.popped())


def _get(trace, _):
    address = trace.top()
    trace.decide()
    trace.push_stored(address)


def _put(trace, _):
    address = trace.top()
    trace.decide()
    trace.put(address, trace.popped())


def _set_argument(trace, argument):
    trace.put(argument, trace.popped())


def _take_number(trace, _):
    state = trace.state
    trace.push(1 << state.place if state.place < len(state.numbers) else 0)


def _write(trace, _):
    trace.origins.append(trace.popped() | trace.control)


def _push_cell(trace, _):
    trace.decide()
    trace.push(0)


def _drop(trace, _):
    trace.popped()


def _double(trace, _):
    places = trace.popped()
    trace.push(places)
    trace.push(places)


def _exchange(trace, _):
    second = trace.popped()
    first = trace.popped()
    trace.push(second)
    trace.push(first)


def _decide(trace, _):
    trace.decide()


def _call_if_defined(trace, _):
    number = trace.top()
    places = trace.decide()
    if not can_call(trace.state.nodes, number):
        trace.push(places)


# The keys are the codes of the signs, in the order of the document's table.
_ACTIONS = {
    35: _push_nowhere,
    43: _unite,
    45: _unite,
    42: _unite,
    60: _unite,
    126: _unite,
    64: _get,
    33: _put,
    61: _set_argument,
    44: _take_number,
    46: _write,
    38: _push_cell,
    95: _drop,
    34: _double,
    92: _exchange,
    63: _decide,
    40: _decide,
    36: _call_if_defined,
}


class Trace:
    """A run that keeps a set of places for each integer."""

    def __init__(self, image, numbers):
        self.state = State(image, numbers)
        self.control = 0
        self.origins = []
        # The sets of the integers on the stack and in the store.
        self._stack = []
        self._store = {}

    def top(self):
        """Returns the integer that the next step pops first."""
        return self.state.stack[-1] if self.state.stack else 0

    def popped(self):
        """Pops a set; an empty stack gives the empty set."""
        return self._stack.pop() if self._stack else 0

    def push(self, places):
        """Pushes a set."""
        self._stack.append(places)

    def push_stored(self, address):
        """Pushes the set that the store has at an address."""
        self.push(self._store.get(address, 0))

    def put(self, address, places):
        """Puts a set at an address of the store."""
        self._store[address] = places

    def decide(self):
        """Pops a set, adds it to the control set, and returns it."""
        places = self.popped()
        self.control = self.control | places
        return places

    def step(self):
        """Makes a step, and tells whether there was one to make."""
        node = self.state.nodes.node(self.state.at)
        if node is None:
            return False
        operation, argument, _ = node
        if operation in _ACTIONS:
            action = _ACTIONS[operation]
            action(self, argument)
        elif is_small(operation):
            self.push_stored(operation)
        return self.state.step()


def _traced(image, numbers, fuel):
    check_fuel(fuel)
    trace = Trace(image, numbers)
    while trace.state.steps < fuel and trace.step():
        pass
    return trace


def _listed(places):
    """Returns the members of a set of places in ascending order."""
    return [place for place in range(places.bit_length()) if (places >> place) & 1 == 1]


def origins(image, numbers, *, fuel):
    """Returns the places of the origin of each output integer, a list of lists."""
    return [_listed(places) for places in _traced(image, numbers, fuel).origins]


def control(image, numbers, *, fuel):
    """Returns the places of the control set after the run."""
    return _listed(_traced(image, numbers, fuel).control)
