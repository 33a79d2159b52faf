"""The shelf: binaries, with the texts of which they are said to be made."""

from plinth.errors import NoEntry, OutOfRange
from plinth.kinds import check_kind
from plinth.machine import check_fuel, run
from plinth.signs import codes_of
from plinth.traps import plant
from plinth.words import check_name


class Shelf:
    """Entries, each with a name, a kind, a text and a binary."""

    def __init__(self):
        # Two dicts with the same names. A binary that is held is never
        # changed, but replaced by a new list.
        self._sources = {}
        self._binaries = {}

    def put(self, name, kind, text, binary):
        """Adds an entry, or replaces the entry of that name."""
        check_name(name)
        check_kind(kind)
        codes_of(text)
        self._sources[name] = (kind, text)
        self._binaries[name] = list(binary)

    def build(self, name, kind, text, *, by, fuel=100000):
        """Puts what another entry's binary writes for the text, if its run ends."""
        check_name(name)
        check_kind(kind)
        codes = codes_of(text)
        check_fuel(fuel)
        ended, output, _ = run(self.binary(by), codes, fuel=fuel)
        if ended:
            self.put(name, kind, text, output)
        return ended

    def swap(self, one, other):
        """Exchanges the binaries of two entries."""
        binary = self.binary(one)
        self._binaries[one] = self.binary(other)
        self._binaries[other] = binary

    def clone(self, source, name):
        """Gives an entry a copy of another one's binary."""
        binary = self.binary(source)
        self._check(name)
        self._binaries[name] = binary

    def damage(self, name, at, number):
        """Replaces a cell of a binary, or appends a number at its end."""
        binary = self.binary(name)
        if not 0 <= at <= len(binary):
            raise OutOfRange("the cell lies outside of the binary")
        binary[at:at + 1] = [number]
        self._binaries[name] = binary

    def trap(self, name, lure, extra):
        """Plants a trap in a binary."""
        self._binaries[name] = plant(self.binary(name), lure, extra)

    def names(self):
        """Returns the names in the order in which the entries were added."""
        return list(self._binaries)

    def kind(self, name):
        """Returns the kind of an entry."""
        self._check(name)
        return self._sources[name][0]

    def text(self, name):
        """Returns the text of an entry."""
        self._check(name)
        return self._sources[name][1]

    def binary(self, name):
        """Returns the binary of an entry as a new list."""
        self._check(name)
        return list(self._binaries[name])

    def copied(self):
        """Returns a shelf that has the same entries and changes on its own."""
        other = Shelf()
        other._sources = dict(self._sources)
        other._binaries = dict(self._binaries)
        return other

    def _check(self, name):
        if name not in self._binaries:
            raise NoEntry(name)
