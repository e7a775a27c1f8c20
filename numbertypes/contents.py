"""What a shelf keeps: items by names, and promises; and what commands make of it."""

from numbertypes.errors import (
    Broken,
    DuplicateName,
    Full,
    InUse,
    InvalidName,
    UnknownName,
    UnknownNumber,
)
from numbertypes.fits import fits, goes_with
from numbertypes.integers import is_int, is_name
from numbertypes.programtexts import read_program
from numbertypes.ringtexts import read_ring
from numbertypes.wishes import Wish

KINDS = ("program", "wish", "ring")
MOST_PROMISES = 8
# The number of items of the commands with each first item.
LENGTHS = {"program": 3, "wish": 3, "ring": 3, "drop": 2, "promise": 4, "release": 2}


def is_command(value):
    """Whether any value is a tuple with the first item and the number of items of a command."""
    if not isinstance(value, tuple) or len(value) == 0 or not isinstance(value[0], str):
        return False
    return LENGTHS.get(value[0]) == len(value)


def read_item(kind, text):
    """The item of a kind with a text."""
    if kind == "program":
        return read_program(text)
    return Wish.read(text) if kind == "wish" else read_ring(text)


class Contents:
    """Items, promises and the next number of a promise; they never change."""

    def __init__(self, items, promises, number):
        # The items are pairs (kind, item) by their names; the promises stand in the order of their numbers.
        self._named = items
        self._promised = promises
        self._number = number

    def after(self, command, limit):
        """The contents that a command makes, if there may be as many names as the limit says."""
        word = command[0]
        if word in KINDS:
            return self._with_item(word, command[1], command[2], limit)
        if word == "drop":
            return self._without_item(command[1])
        if word == "promise":
            return self._with_promise(command[1:])
        return self._without_promise(command[1])

    def _with_item(self, kind, name, text, limit):
        if not is_name(name):
            raise InvalidName(name)
        if name in self._named and self._named[name][0] != kind:
            raise DuplicateName(name)
        if name not in self._named and len(self._named) >= limit:
            raise Full(limit)
        item = (kind, read_item(kind, text))
        made = Contents({**self._named, name: item}, self._promised, self._number)
        for number, promise in self._promised.items():
            if name in promise and not made.keeps(promise):
                raise Broken(number)
        return made

    def _without_item(self, name):
        if not self.has(name):
            raise UnknownName(name)
        for number, promise in self._promised.items():
            if name in promise:
                raise InUse(number)
        rest = {other: self._named[other] for other in self._named if other != name}
        return Contents(rest, self._promised, self._number)

    def _with_promise(self, promise):
        for kind, name in zip(KINDS, promise):
            self.item_of(kind, name)
        if not self.keeps(promise):
            raise Broken(0)
        if len(self._promised) >= MOST_PROMISES:
            raise Full(MOST_PROMISES)
        return Contents(self._named, {**self._promised, self._number: promise}, self._number + 1)

    def _without_promise(self, number):
        if not is_int(number) or number not in self._promised:
            raise UnknownNumber(number)
        rest = {other: self._promised[other] for other in self._promised if other != number}
        return Contents(self._named, rest, self._number)

    def keeps(self, promise):
        """Whether a promise of names of items of the right kinds holds."""
        program, wish, ring = [self._named[name][1] for name in promise]
        return goes_with(program, wish) and fits(program, wish, ring)

    def has(self, name):
        """Whether any value is the name of an item."""
        return is_name(name) and name in self._named

    def names(self, kind):
        """The ascending list of the names of the items of a kind, of all if it is None."""
        return sorted([name for name in self._named if kind is None or self._named[name][0] == kind])

    def item(self, name):
        """The item with a name."""
        if not self.has(name):
            raise UnknownName(name)
        return self._named[name][1]

    def item_of(self, kind, name):
        """The item with a name, if it is one of this kind."""
        if not self.has(name) or self._named[name][0] != kind:
            raise UnknownName(name)
        return self._named[name][1]

    def promises(self):
        """The list of the pairs (number, promise), ascending."""
        return list(self._promised.items())

    def agrees(self, other, names):
        """Whether other contents have equal items by these names."""
        return all([name in other._named and self._named[name] == other._named[name] for name in names])

    def __eq__(self, other):
        return isinstance(other, Contents) and self._named == other._named and self._promised == other._promised
