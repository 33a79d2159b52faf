"""What a desk has: items, rules, a shelf and claims."""

from plinth.shelf import Shelf


class Held:
    """A claim, with the image and the input of the run of which it speaks."""

    def __init__(self, image, numbers, states):
        self.image = image
        self.numbers = numbers
        self.states = states


class Holdings:
    """Items, rules, a shelf and claims.

    A content or a claim that is held is never changed, but replaced by a new
    one, so that copies of the holdings may have it in common."""

    def __init__(self):
        self.contents = {}
        self.rules = []
        self.shelf = Shelf()
        self.claims = {}

    def copied(self):
        """Returns holdings that have the same and change on their own."""
        other = Holdings()
        other.contents = dict(self.contents)
        other.rules = list(self.rules)
        other.shelf = self.shelf.copied()
        other.claims = dict(self.claims)
        return other

    def has_item(self, name):
        """Tells whether there is an item of a name."""
        return name in self.contents

    def has_entry(self, name):
        """Tells whether the shelf has an entry of a name."""
        return name in self.shelf.names()

    def has_claim(self, name):
        """Tells whether there is a claim of a name."""
        return name in self.claims
