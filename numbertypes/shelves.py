"""Shelves: programs, wishes and rings by names, and promises that programs are right."""

from numbertypes.contents import Contents, is_command
from numbertypes.errors import InvalidCommand
from numbertypes.fits import realm_of
from numbertypes.rings import check_number
from numbertypes.timelines import Timeline


class Shelf:
    """Items by names and promises, with the steps that made them and the realms that were asked for."""

    MOST = 20

    def __init__(self, *, limit=12):
        self._line = Timeline(Contents({}, {}, 1))
        self._realms = {}
        self._computed = 0
        self._working = False
        self.set_limit(limit)

    @property
    def limit(self):
        """The most names for which a new one is taken."""
        return self._limit

    @limit.setter
    def limit(self, value):
        self.set_limit(value)

    def set_limit(self, value):
        """Assigns the limit, which is not less than the number of names."""
        check_number(value, max(1, len(self)), self.MOST)
        self._limit = value

    def apply(self, *commands):
        """Does all commands as one step, or none if one of them raises an error."""
        for index, command in enumerate(commands):
            if not is_command(command):
                raise InvalidCommand(index)
        before = self._line.state
        self._working = True
        try:
            found = before
            for command in commands:
                found = found.after(command, self._limit)
            self._line.move(found)
        finally:
            self._working = False
        self._forget_changed(before)

    def undo(self):
        """Takes the last step back."""
        before = self._line.state
        self._line.undo()
        self._forget_changed(before)

    def redo(self):
        """Makes the step again that was taken back last."""
        before = self._line.state
        self._line.redo()
        self._forget_changed(before)

    def _forget_changed(self, before):
        # Only those realms are kept whose two items are equal to the ones before the step.
        now = self._line.state
        self._realms = {names: realm for names, realm in self._realms.items() if before.agrees(now, names)}

    def forget_steps(self):
        """Leaves no step that can be undone or redone."""
        self._line = Timeline(self._line.state)

    def history(self):
        """The pair of the numbers of steps that can be undone and redone."""
        return self._line.history()

    @property
    def busy(self):
        """Whether commands are being done."""
        return self._working

    def names(self, *, kind=None):
        """The ascending list of all names, or of those of a kind."""
        return self._line.state.names(kind)

    def item(self, name):
        """The program, wish or ring with a name."""
        return self._line.state.item(name)

    def item_of(self, kind, name):
        """The same, if it is of this kind."""
        return self._line.state.item_of(kind, name)

    def promises(self):
        """The list of the pairs (number, promise), ascending."""
        return self._line.state.promises()

    def realm_for(self, program, wish):
        """The realm of two items by their names, which is kept."""
        made = self.item_of("program", program)
        wished = self.item_of("wish", wish)
        names = (program, wish)
        if names not in self._realms:
            self._realms[names] = realm_of(made, wished)
            self._computed += 1
        return self._realms[names]

    def fits(self, program, wish, ring):
        """Whether a ring belongs to the realm of two items, by their names."""
        self.item_of("program", program)
        self.item_of("wish", wish)
        found = self.item_of("ring", ring)
        return found in self.realm_for(program, wish)

    @property
    def computed(self):
        """How many realms were computed."""
        return self._computed

    def kept(self):
        """The ascending list of the pairs (program, wish) whose realm is kept."""
        return sorted(self._realms)

    def twin(self):
        """An independent shelf in the same state."""
        made = Shelf(limit=self._limit)
        made._line = self._line.twin()
        made._realms = {names: realm for names, realm in self._realms.items()}
        made._computed = self._computed
        return made

    def __contains__(self, x):
        return self._line.state.has(x)

    def __len__(self):
        return len(self._line.state.names(None))

    def __eq__(self, other):
        return isinstance(other, Shelf) and self._line.state == other._line.state

    def __repr__(self):
        return f"Shelf({len(self)} names, {len(self.promises())} promises)"
