"""What rings have in common whose things are put together of things of other rings."""

from numbertypes.rings import Ring


def choices(lists):
    """All tuples with one item of each list; ascending, if the lists are."""
    found = [()]
    for options in lists:
        found = [begun + (option,) for begun in found for option in options]
    return found


def size_together(sizes):
    """The number of choices from rings of these sizes; None if one of them is None."""
    result = 1
    for size in sizes:
        if size is None:
            return None
        result = result * size
    return result


class Slotwise(Ring):
    """The rings whose things are tuples that are summed slot by slot, each slot in a ring of its own.

    The marks are 1 for the slots in which the one of the ring has a one, and 0 for the others.
    """

    def __init__(self, parts, numbers, slots, marks):
        self._slots = slots
        self._marks = marks
        super().__init__(parts, numbers, slots)

    def size(self):
        """The number of things, or None if there are endlessly many."""
        return size_together([slot.size() for slot in self._slots])

    def is_thing(self, value):
        """Whether any value is a tuple with a thing for each slot."""
        if not isinstance(value, tuple) or len(value) != len(self._slots):
            return False
        return all([slot.is_thing(part) for slot, part in zip(self._slots, value)])

    def _plus(self, x, y):
        return tuple([slot._plus(a, b) for slot, a, b in zip(self._slots, x, y)])

    def _times(self, k, x):
        return tuple([slot._times(k, a) for slot, a in zip(self._slots, x)])

    def _share(self, p, q):
        return tuple([slot._share(p * mark, q) for slot, mark in zip(self._slots, self._marks)])

    def _listing(self):
        return choices([slot._listing() for slot in self._slots])

    def _placed(self, at, thing):
        # The thing in one slot, zero in all others.
        return tuple([thing if k == at else slot.zero() for k, slot in enumerate(self._slots)])

    def _unit(self, at):
        return self._placed(at, self._slots[at].one())
