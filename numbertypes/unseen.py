"""Logs of verdicts on a ring that nobody has seen."""

from numbertypes.errors import Full, UnknownNumber, Unsound
from numbertypes.fits import realm_of
from numbertypes.integers import is_int
from numbertypes.realms import Realm
from numbertypes.timelines import Timeline


def meet_of(realms):
    """The meet of a list of realms."""
    found = Realm.everywhere()
    for realm in realms:
        found = found & realm
    return found


def realms_of(verdicts, right):
    """The list of the realms of the verdicts of one sort."""
    return [realm for _, realm, sort in verdicts if sort == right]


def lies_in_one(realm, others):
    """Whether a realm lies within one of several others."""
    return any([realm.within(other) for other in others])


class Unseen:
    """A log of verdicts that the ring belongs to a realm, or that it does not; there always is such a ring."""

    MOST = 40

    def __init__(self):
        # The states are pairs of the tuple of the verdicts, triples (number, realm, right), and the next number.
        self._line = Timeline(((), 1))

    def note(self, realm, right):
        """Adds the verdict that the ring belongs to the realm, if right is True, or that it does not; its number."""
        self._check_space()
        verdicts, number = self._line.state
        if right:
            self._check_right(realm)
        elif self.meet().within(realm):
            raise Unsound(0)
        self._line.move(((*verdicts, (number, realm, right)), number + 1))
        return number

    def note_program(self, program, wish, *, right=True):
        """Adds the verdict on the realm of a program and a wish; its number."""
        self._check_space()
        return self.note(realm_of(program, wish), right)

    def _check_space(self):
        if len(self) >= self.MOST:
            raise Full(self.MOST)

    def _check_right(self, realm):
        meet = self.meet() & realm
        if not meet:
            raise Unsound(0)
        for number, other, right in self._line.state[0]:
            if not right and meet.within(other):
                raise Unsound(number)

    def withdraw(self, number):
        """Removes the verdict with a number."""
        verdicts, free = self._line.state
        if not is_int(number) or number not in [verdict[0] for verdict in verdicts]:
            raise UnknownNumber(number)
        self._line.move((tuple([verdict for verdict in verdicts if verdict[0] != number]), free))

    def verdicts(self):
        """The list of the triples (number, realm, right), ascending."""
        return list(self._line.state[0])

    def meet(self):
        """The realm of all rings that belong to the realms of all right verdicts."""
        return meet_of(realms_of(self._line.state[0], True))

    def judge(self, realm):
        """Whether the ring surely belongs to a realm, as a word: right, wrong or open."""
        meet = self.meet()
        if meet.within(realm):
            return "right"
        part = meet & realm
        if not part or lies_in_one(part, realms_of(self._line.state[0], False)):
            return "wrong"
        return "open"

    def rings(self, realm):
        """The pair of a ring that belongs to the realm and one that does not, or None; all verdicts hold for both."""
        meet = self.meet()
        told = self.judge(realm)
        # A sample belongs to no realm but those within which the whole realm lies of which it is one.
        inside = None if told == "wrong" else (meet & realm).sample()
        outside = None if told == "right" else meet.sample()
        return (inside, outside)

    def needless(self):
        """The ascending list of the numbers of the verdicts without which every realm is judged as before."""
        verdicts = self._line.state[0]
        return [verdict[0] for verdict in verdicts if self._is_needless(verdict)]

    def _is_needless(self, verdict):
        meet = self.meet()
        number, realm, right = verdict
        others = realms_of([other for other in self._line.state[0] if other[0] != number], right)
        if right:
            return meet_of(others) == meet
        part = meet & realm
        return not part or lies_in_one(part, others)

    def walk(self, right):
        """A generator of the realms of the verdicts of one sort, in the order of their numbers."""
        for _, realm, sort in self._line.state[0]:
            if sort == right:
                yield realm

    def undo(self):
        """Takes the last note or withdrawal back."""
        self._line.undo()

    def redo(self):
        """Makes the note or withdrawal again that was taken back last."""
        self._line.redo()

    def history(self):
        """The pair of the numbers of steps that can be undone and redone."""
        return self._line.history()

    def twin(self):
        """An independent log in the same state."""
        made = Unseen()
        made._line = self._line.twin()
        return made

    def __len__(self):
        return len(self._line.state[0])

    def __eq__(self, other):
        return isinstance(other, Unseen) and self._line.state[0] == other._line.state[0]

    def __repr__(self):
        return f"Unseen({self._count(True)} right, {self._count(False)} wrong)"

    def _count(self, right):
        return len(realms_of(self._line.state[0], right))
