"""Saved runs, and trials, which leave a state as it was."""

from plinth.errors import BadSave
from plinth.machine import check_fuel
from plinth.story import state_of

_MARK = 7


def checksum(body):
    """Returns the checksum of a list of integers."""
    total = 1
    for number in body:
        total = (31 * total + number) % 1000003
    return total


def _row(numbers):
    return [len(numbers)] + list(numbers)


def save(image, numbers, state, *, steps=0):
    """Returns the saved run of a state in plain form."""
    check_fuel(steps)
    at, stack, store, back, place, output = state
    body = _row(image) + _row(numbers) + [steps, at, place] + _row(stack) + _row(back) + _row(output)
    body.append(len(store))
    for address, number in store:
        body.extend([address, number])
    return [_MARK, checksum(body)] + body


def _is_integer(_):
    return True


def _is_mark(number):
    return number == _MARK


def _is_natural(number):
    return number >= 0


def _is_not_zero(number):
    return number != 0


class SaveReader:
    """Reads a saved run entry by entry, and raises BadSave at its first fault."""

    def __init__(self, cells):
        self._cells = list(cells)
        # The index of the next entry.
        self._at = 0

    def take(self, can_stand):
        """Takes the next entry, if a function tells that it can stand there."""
        if self._at >= len(self._cells) or not can_stand(self._cells[self._at]):
            raise BadSave(self._at)
        self._at += 1
        return self._cells[self._at - 1]

    def _count(self, size):
        """Takes the count of things of so many entries each."""
        behind = len(self._cells) - self._at - 1
        return self.take(lambda number: 0 <= size * number <= behind)

    def taken_row(self):
        """Takes a row and returns its integers."""
        count = self._count(1)
        self._at += count
        return self._cells[self._at - count:self._at]

    def taken_pairs(self):
        """Takes the pairs of a store and returns them."""
        pairs = []
        for _ in range(self._count(2)):
            address = self.take(lambda number: not pairs or pairs[-1][0] < number)
            pairs.append((address, self.take(_is_not_zero)))
        return tuple(pairs)

    def end(self):
        """Checks that no entry is left over."""
        if self._at < len(self._cells):
            raise BadSave(self._at)


def load(cells):
    """Returns the image, the input, the state and the steps of a saved run."""
    reader = SaveReader(cells)
    reader.take(_is_mark)
    claimed = reader.take(_is_integer)
    image = reader.taken_row()
    numbers = reader.taken_row()
    steps = reader.take(_is_natural)
    at = reader.take(_is_integer)
    place = reader.take(_is_natural)
    stack = tuple(reader.taken_row())
    back = tuple(reader.taken_row())
    output = tuple(reader.taken_row())
    store = reader.taken_pairs()
    reader.end()
    if claimed != checksum(cells[2:]):
        raise BadSave(1)
    return (image, numbers, (at, stack, store, back, place, output), steps)


def fault_at(cells):
    """Returns the index at which a list has its fault, or None."""
    try:
        load(cells)
    except BadSave as fault:
        return fault.at
    return None


def continued(cells, *, fuel):
    """Returns the saved run after more steps, and whether it has ended."""
    image, numbers, plain, steps = load(cells)
    state = state_of(image, numbers, plain)
    made = state.advance(fuel=fuel)
    return (save(image, numbers, state.plain(), steps=steps + made), state.has_ended())


class Parts:
    """Copies of the parts of a state, and the parts that were kept before."""

    def __init__(self, state, before):
        self.at = state.at
        self.stack = list(state.stack)
        self.store = dict(state.store)
        self.back = list(state.back)
        self.place = state.place
        self.output = list(state.output)
        self.steps = state.steps
        self.before = before


class Trial:
    """A block that may change a state, which is as before behind the block."""

    def __init__(self, state):
        self._state = state
        self._kept = None

    def __enter__(self):
        state = self._state
        self._kept = Parts(state, self._kept)
        # The block changes copies, so that lists of the state that others
        # know stay as they are, too.
        state.stack = list(state.stack)
        state.store = dict(state.store)
        state.back = list(state.back)
        state.output = list(state.output)
        return state

    def __exit__(self, kind, value, trace):
        state = self._state
        state.at = self._kept.at
        state.stack = self._kept.stack
        state.store = self._kept.store
        state.back = self._kept.back
        state.place = self._kept.place
        state.output = self._kept.output
        state.steps = self._kept.steps
        self._kept = self._kept.before


def tried(state, *, fuel):
    """Returns the plain form of a state after more steps, and leaves it as it is."""
    with Trial(state) as changed:
        changed.advance(fuel=fuel)
        return changed.plain()


def tried_twice(state, *, first, second):
    """Returns the plain forms after the steps of a trial, of a trial within it,
    and of the first trial behind that one."""
    with Trial(state) as changed:
        changed.advance(fuel=first)
        after_first = changed.plain()
        after_second = tried(changed, fuel=second)
        return (after_first, after_second, changed.plain())
