"""All errors that the program raises."""


class PlinthError(ValueError):
    """The base class of all errors of the program."""


class NotText(PlinthError):
    """A string or a list of codes has something that is no character."""


class NotNumeral(PlinthError):
    """A text is no numeral, or an integer has none."""


class BadFuel(PlinthError):
    """A fuel or a number of steps is negative."""


class BadClaim(PlinthError):
    """A claim is empty, or an index of an entry is negative."""


class BadTrap(PlinthError):
    """A lure or the extra integers of a trap are not allowed."""


class NotPlantable(PlinthError):
    """No trap can be planted in an image."""


class NotPlanted(PlinthError):
    """An image has no trap."""


class BadName(PlinthError):
    """A name is not 1 to 12 small letters."""


class BadKind(PlinthError):
    """A kind is none of the kinds of texts."""


class OutOfRange(PlinthError):
    """A cell lies outside of a binary."""


class NotBalanced(PlinthError):
    """A text is not balanced."""


class BadPayload(PlinthError):
    """A payload, or the size of a ring, is not allowed."""


class OpenTrial(PlinthError):
    """A trial is open where none may be, or none is open where one must be."""


class BadPlan(PlinthError):
    """A plan is invalid, or a name is none of its items."""

    def __init__(self, name):
        super().__init__(f"the plan is invalid at {name}")
        self.name = name


class NoEntry(PlinthError):
    """There is no entry of a name."""

    def __init__(self, name):
        super().__init__(f"there is no entry {name}")
        self.name = name


class NoRung(PlinthError):
    """There is no binary, or no kind, of a name."""

    def __init__(self, name):
        super().__init__(f"the tower has no {name}")
        self.name = name


class NotGrown(PlinthError):
    """A binary has not been built yet."""

    def __init__(self, name):
        super().__init__(f"{name} has not been built yet")
        self.name = name


class Malformed(PlinthError):
    """A text is not the text of a tree."""

    def __init__(self, at):
        super().__init__(f"the text cannot go on at {at}")
        self.at = at


class NotWritable(PlinthError):
    """An integer cannot be written in digits."""

    def __init__(self, at):
        super().__init__(f"the integer {at} of the list cannot be written")
        self.at = at


class NotListable(PlinthError):
    """An image has no listing."""

    def __init__(self, at):
        super().__init__(f"the image cannot be listed at its node {at}")
        self.at = at


class NotLinkable(PlinthError):
    """An image cannot be linked."""

    def __init__(self, at):
        super().__init__(f"the image {at} cannot be linked")
        self.at = at


class BadSave(PlinthError):
    """A list of integers is not a saved run."""

    def __init__(self, at):
        super().__init__(f"the saved run has a fault at {at}")
        self.at = at


class BadJournal(PlinthError):
    """A text is not the record of a journal."""

    def __init__(self, row):
        super().__init__(f"the record has a fault in its row {row}")
        self.row = row
