"""The tower: binaries that are built one after the other, from the seed on."""

from plinth.errors import NoRung, NotGrown
from plinth.machine import check_fuel, run
from plinth.rungs import rung_maker, rung_names, rung_text
from plinth.seed import seed_image
from plinth.signs import codes_of

_SERVERS = {"digits": "seed", "short": "first", "plain": "plain", "turned": "turned"}


def _chosen_texts(texts):
    """Returns the texts of all binaries; given ones replace the program's."""
    chosen = {name: rung_text(name) for name in rung_names()}
    for name, _ in texts:
        if name not in chosen:
            raise NoRung(name)
    for name, text in texts:
        # This raises NotText for a text with other characters.
        codes_of(text)
        chosen[name] = text
    return chosen


class Tower:
    """The seed, and the binaries that have been built so far."""

    def __init__(self, *, texts=()):
        self._texts = _chosen_texts(texts)
        self._binaries = {"seed": seed_image()}
        self.steps = 0

    def __len__(self):
        return len(self._binaries)

    def __iter__(self):
        return iter(self._binaries)

    @property
    def complete(self):
        """Tells whether all binaries have been built."""
        return len(self._binaries) > len(self._texts)

    def grow(self, *, fuel=100000):
        """Builds the next binary and returns its name, or None if there is none."""
        check_fuel(fuel)
        if self.complete:
            return None
        # The seed is no rung, so the rungs are one behind the binaries.
        name = rung_names()[len(self._binaries) - 1]
        ended, output, made = run(self._binaries[rung_maker(name)], codes_of(self._texts[name]), fuel=fuel)
        self.steps += made
        if not ended:
            return None
        self._binaries[name] = output
        return name

    def finish(self, *, fuel=100000):
        """Grows as long as it can, and tells whether the tower is complete."""
        while self.grow(fuel=fuel) is not None:
            pass
        return self.complete

    def binary(self, name):
        """Returns a binary as a new list."""
        if name in self._binaries:
            return list(self._binaries[name])
        if name in self._texts:
            raise NotGrown(name)
        raise NoRung(name)

    def text(self, name):
        """Returns the text of a binary in this tower."""
        if name not in self._texts:
            raise NoRung(name)
        return self._texts[name]

    def serve(self, kind, codes, *, fuel=100000):
        """Runs the binary that serves a kind: ended, the output, the steps."""
        if kind not in _SERVERS:
            raise NoRung(kind)
        return run(self.binary(_SERVERS[kind]), codes, fuel=fuel)
