"""Desks: they answer lines of words about a shelf."""

from numbertypes.errors import Missing, NothingLeft, RingError
from numbertypes.fits import verdict
from numbertypes.integers import read_digits, written
from numbertypes.pages import numbers_of
from numbertypes.shelves import Shelf

MOST_DIGITS = 6
UNKNOWN = "unknown"
DONE = "done"
# How many words stand behind the first word of each kind of line; only "ring" has any text in it.
COUNTS = {
    "realm": 2,
    "fits": 3,
    "verdict": 3,
    "numbers": 1,
    "names": 0,
    "promise": 3,
    "release": 1,
    "drop": 1,
    "undo": 0,
    "redo": 0,
}


class Desk:
    """Answers lines by what a shelf tells, and keeps them with their answers."""

    def __init__(self, *, shelf=None):
        # A shelf without names is no true value, so it is compared with None.
        self._shelf = Shelf() if shelf is None else shelf
        self._said = []

    def say(self, line):
        """The answer to a line."""
        try:
            answer = self._answer(line)
        except (RingError, Missing, NothingLeft) as error:
            answer = "error " + error.code
        self._said.append((line, answer))
        return answer

    def _answer(self, line):
        word, _, behind = line.partition(" ")
        if "\n" in line:
            return UNKNOWN
        if word == "ring":
            return self._put_ring(behind)
        given = line.split(" ")[1:]
        if COUNTS.get(word) != len(given) or "" in given:
            return UNKNOWN
        if word in ("realm", "fits", "verdict", "numbers", "names"):
            return self._told(word, given)
        return self._changed(word, given)

    def _put_ring(self, behind):
        name, _, text = behind.partition(" ")
        if name == "" or text == "":
            return UNKNOWN
        self._shelf.apply(("ring", name, text))
        return DONE

    def _told(self, word, given):
        # The answer to a line that changes nothing.
        shelf = self._shelf
        if word == "realm":
            realm = shelf.realm_for(*given)
            return listed(numbers_of(realm)) if realm else "nowhere"
        if word == "fits":
            return "yes" if shelf.fits(*given) else "no"
        if word == "verdict":
            items = [shelf.item_of(kind, name) for kind, name in zip(("program", "wish", "ring"), given)]
            return verdict(*items).told()
        if word == "numbers":
            ring = shelf.item_of("ring", given[0])
            return listed([ring.ones, ring.swaps, ring.squares])
        names = shelf.names()
        return "none" if len(names) == 0 else " ".join(names)

    def _changed(self, word, given):
        # The answer to a line that changes the shelf.
        shelf = self._shelf
        if word == "undo":
            shelf.undo()
        elif word == "redo":
            shelf.redo()
        elif word == "release":
            number = read_digits(given[0], MOST_DIGITS)
            if number is None:
                return UNKNOWN
            shelf.apply((word, number))
        else:
            shelf.apply((word, *given))
        return DONE

    def shelf(self):
        """The shelf itself."""
        return self._shelf

    def log(self):
        """The list of the pairs (line, answer)."""
        return list(self._said)

    def __call__(self, line):
        return self.say(line)

    def __len__(self):
        return len(self._said)

    def __repr__(self):
        return f"Desk({len(self._said)} lines)"


def listed(numbers):
    """The text of a list of integers with one space between."""
    return " ".join([written(number) for number in numbers])
