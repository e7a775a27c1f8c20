"""Benches of sums: lines of factors times inputs and earlier lines."""

from numbertypes.errors import InvalidHead, InvalidLine, InvalidThing, TooMany, Unused, WrongCount
from numbertypes.integers import is_int, is_name
from numbertypes.programs import new_names
from numbertypes.steps import are_known, are_names, is_known

MOST_INPUTS = 8
MOST_OUTPUTS = 8
MOST_LINES = 40
MOST_PARTS = 48


def is_line(value, known):
    """Whether any value is a line with a new name whose parts have known names."""
    if not isinstance(value, tuple) or len(value) != 2:
        return False
    name, parts = value
    if not is_name(name) or name in known or not isinstance(parts, (list, tuple)):
        return False
    if not 1 <= len(parts) <= MOST_PARTS or not all([is_part(part, known) for part in parts]):
        return False
    return len(set([part[1] for part in parts])) == len(parts)


def is_part(value, known):
    """Whether any value is a pair of an integer other than 0 and a known name."""
    if not isinstance(value, tuple) or len(value) != 2:
        return False
    return is_int(value[0]) and value[0] != 0 and is_known(value[1], known)


def first_wrong_line(lines, inputs):
    """The index of the first wrong line, 40 if only those behind so many lines are wrong, or None."""
    known = {name: True for name in inputs}
    for at, line in enumerate(lines):
        if at == MOST_LINES or not is_line(line, known):
            return at
        known[line[0]] = True
    return None


class Sums:
    """A bench of sums: inputs, lines, and the names of outputs."""

    def __init__(self, inputs, lines, outputs):
        if not are_names(inputs, MOST_INPUTS):
            raise InvalidHead("in")
        wrong = first_wrong_line(lines, inputs)
        if wrong is not None:
            raise InvalidLine(wrong)
        names = list(inputs) + [line[0] for line in lines]
        if not are_known(outputs, names, MOST_OUTPUTS):
            raise InvalidHead("out")
        used = list(outputs) + [part[1] for line in lines for part in line[1]]
        for name in names:
            if name not in used:
                raise Unused(name)
        self._inputs = tuple(inputs)
        self._lines = tuple([(name, tuple(parts)) for name, parts in lines])
        self._outputs = tuple(outputs)

    @property
    def inputs(self):
        """The tuple of the names of the inputs."""
        return self._inputs

    @property
    def lines(self):
        """The tuple of the lines: pairs of a name and a tuple of parts (factor, name)."""
        return self._lines

    @property
    def outputs(self):
        """The tuple of the names of the outputs."""
        return self._outputs

    @property
    def adds(self):
        """The number of sums of two things that the lines make."""
        return sum([len(parts) - 1 for _, parts in self._lines])

    def table(self):
        """The list with the factors of all inputs, as a list, for each output."""
        places = range(len(self._inputs))
        rows = {name: [int(at == place) for at in places] for place, name in enumerate(self._inputs)}
        for name, parts in self._lines:
            rows[name] = [sum([factor * rows[other][at] for factor, other in parts]) for at in places]
        return [list(rows[name]) for name in self._outputs]

    def values(self, ring, *things):
        """The list of the outputs for things of a ring."""
        if len(things) != len(self._inputs):
            raise WrongCount(len(things))
        for thing in things:
            if not ring.is_thing(thing):
                raise InvalidThing(thing)
        found = {name: thing for name, thing in zip(self._inputs, things)}
        for name, parts in self._lines:
            total = ring.zero()
            for factor, other in parts:
                total = ring._plus(total, ring._times(factor, found[other]))
            found[name] = total
        return [found[name] for name in self._outputs]

    def turned(self):
        """A bench whose table has rows and columns exchanged.

        It has an input for each output and a line for each input and each line, which sums what uses this one. The
        lines stand in the other order, as what uses a line stands behind it.
        """
        names = list(self._inputs) + [name for name, _ in self._lines]
        if len(names) > MOST_LINES:
            raise TooMany(MOST_LINES)
        inputs = new_names(len(self._outputs), names)
        users = {name: [] for name in names}
        for name, output in zip(inputs, self._outputs):
            users[output].append((1, name))
        for name, parts in self._lines:
            for factor, other in parts:
                users[other].append((factor, name))
        return Sums(inputs, [(name, users[name]) for name in reversed(names)], self._inputs)

    def __eq__(self, other):
        if not isinstance(other, Sums) or self._inputs != other._inputs:
            return False
        return self._lines == other._lines and self._outputs == other._outputs

    def __repr__(self):
        return f"Sums({self.adds} adds)"
