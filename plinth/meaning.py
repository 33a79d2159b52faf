"""The meaning of trees: they are executed without an image."""

from plinth.machine import State, check_fuel
from plinth.operations import CALL_IF_DEFINED, PUSH, SET
from plinth.signs import is_capital


class Frame:
    """A list of items that is being executed."""

    def __init__(self, rows, *, repeats=False):
        self.rows = rows
        self.place = 0
        self.repeats = repeats


class Execution:
    """The execution of a tree on an input, step by step."""

    def __init__(self, tree, numbers):
        # The state has no nodes: it does what single operations do.
        self.state = State([], numbers)
        self._bodies = {item[1]: item[2] for item in tree if item[0] == "def"}
        rows = [item for item in tree if item[0] != "def"]
        # The end of an empty list is the step that precedes the first item.
        self._frames = [Frame(rows), Frame([])]

    def has_ended(self):
        """Tells whether the closing return, or a call of nothing, was executed."""
        return not self._frames

    def step(self):
        """Makes one step of an execution that has not ended."""
        frame = self._frames[-1]
        if frame.place < len(frame.rows):
            item = frame.rows[frame.place]
            frame.place += 1
            self._execute(item)
        elif frame.repeats and self.state.popped() != 0:
            frame.place = 0
        else:
            self._frames.pop()

    def _execute(self, item):
        kind = item[0]
        if kind == "num":
            self.state.perform((PUSH, item[1], 0))
        elif kind == "put":
            self.state.perform((SET, item[1], 0))
        elif kind == "op":
            self._execute_sign(item[1])
        elif kind == "loop":
            self._frames.append(Frame(item[1], repeats=True))
        elif self.state.popped() != 0:
            self._frames.append(Frame(item[1]))
        elif kind == "choose":
            self._frames.append(Frame(item[2]))

    def _execute_sign(self, code):
        if code == CALL_IF_DEFINED:
            self._call_if_defined(self.state.popped())
        elif not is_capital(code):
            self.state.perform((code, 0, 0))
        elif code in self._bodies:
            self._frames.append(Frame(self._bodies[code]))
        else:
            self._frames.clear()

    def _call_if_defined(self, number):
        if number in self._bodies:
            self._frames.append(Frame(self._bodies[number]))
        else:
            self.state.perform((PUSH, number, 0))


def mean(tree, numbers, fuel):
    """Executes a tree: whether it has ended, the output, and the steps."""
    check_fuel(fuel)
    execution = Execution(tree, numbers)
    steps = 0
    while steps < fuel and not execution.has_ended():
        execution.step()
        steps += 1
    return (execution.has_ended(), execution.state.output, steps)
