"""Libraries: images that define letters for others."""

from plinth.errors import NoEntry, NotLinkable
from plinth.link import check_linkable, is_linkable, link
from plinth.nodes import nodes_of
from plinth.operations import CALL_IF_DEFINED
from plinth.signs import is_capital
from plinth.threads import target
from plinth.words import check_name


def _operations(image):
    return [operation for _, operation, _, _ in nodes_of(image)]


def _capitals(codes):
    return sorted(set([code for code in codes if is_capital(code)]))


def defines(image):
    """Returns the letters that an image defines."""
    return _capitals([node[0] for node in nodes_of(image)])


def calls(image):
    """Returns the letters that an image calls."""
    return _capitals(_operations(image))


def is_silent(image):
    """Tells whether a linkable image does nothing before it comes to its exit."""
    return is_linkable(image) and target(image, 0) == image[-4]


class Library:
    """Silent images with names, the modules, in their order."""

    def __init__(self):
        self._images = {}

    def __len__(self):
        return len(self._images)

    def __iter__(self):
        return iter(self._images)

    def add(self, name, image):
        """Adds a module, or replaces the image of the module of that name."""
        check_name(name)
        if not is_silent(image):
            raise NotLinkable(0)
        self._images[name] = list(image)

    def image(self, name):
        """Returns the image of a module as a new list."""
        if name not in self._images:
            raise NoEntry(name)
        return list(self._images[name])

    def needed(self, image):
        """Returns the names of the modules that an image needs."""
        own = defines(image)
        found = {}
        waiting = [image]
        while waiting:
            for name in self._asked(waiting.pop(), own):
                if name not in found:
                    found[name] = True
                    waiting.append(self._images[name])
        return [name for name in self._images if name in found]

    def missing(self, image):
        """Returns the letters that an image or its modules call and nobody defines."""
        serving = self._serving()
        own = defines(image)
        parts = [image] + [self._images[name] for name in self.needed(image)]
        called = _capitals([code for part in parts for code in calls(part)])
        return [code for code in called if code not in own and code not in serving]

    def joined(self, image):
        """Returns the link of the modules that an image needs and of the image."""
        check_linkable(image)
        return link([self._images[name] for name in self.needed(image)] + [image])

    def _serving(self):
        """Returns a dict from letters to the names of the modules that serve them."""
        # A later module replaces an earlier one.
        return {code: name for name in self._images for code in defines(self._images[name])}

    def _asked(self, part, own):
        """Returns the modules that a part of a program asks for, where `own`
        are the letters that the program defines itself."""
        if CALL_IF_DEFINED in _operations(part):
            return list(self._images)
        serving = self._serving()
        return [serving[code] for code in calls(part) if code in serving and code not in own]
