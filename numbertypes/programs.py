"""Programs of sums, shares, products and calls of procedures."""

from numbertypes.errors import (
    DegreeTooHigh,
    InvalidHead,
    InvalidStep,
    InvalidThing,
    NoInverse,
    TooMany,
    UnknownName,
    WrongCount,
)
from numbertypes.forms import Form
from numbertypes.integers import LETTERS, is_name, multiple, radical
from numbertypes.steps import (
    are_known,
    are_names,
    first_wrong_step,
    form_made,
    is_known,
    named,
    placed,
    step_line,
    thing_made,
)

MOST_INPUTS = 4
MOST_OUTPUTS = 4
MOST_STEPS = 240
MOST_PROCEDURES = 3
MOST_PARAMETERS = 3
MOST_INNER_STEPS = 12


class Program:
    """A program: its inputs, its steps, its outputs, and the procedures that its steps may call."""

    def __init__(self, inputs, steps, outputs, *, procedures=()):
        counts = checked_procedures(procedures)
        if not are_names(inputs, MOST_INPUTS) or any([name in counts for name in inputs]):
            raise InvalidHead("in")
        wrong = first_wrong_step(steps, MOST_STEPS, inputs, counts, counts)
        if wrong is not None:
            raise InvalidStep(None, wrong)
        if not are_known(outputs, list(inputs) + [step[1] for step in steps], MOST_OUTPUTS):
            raise InvalidHead("out")
        if count_executed(steps, procedures) > MOST_STEPS:
            raise TooMany(MOST_STEPS)
        self._inputs = tuple(inputs)
        self._steps = tuple(steps)
        self._outputs = tuple(outputs)
        self._procedures = tuple([(name, tuple(given), tuple(inner), end) for name, given, inner, end in procedures])
        self._execute()

    def _execute(self):
        # The inputs and the executed steps have places from 0 on. The flow has the executed steps, with
        # places instead of names; the places are those of the names of the program itself.
        bodies = {name: (given, inner, end) for name, given, inner, end in self._procedures}
        self._flow = []
        self._forms = [Form.word(name) for name in self._inputs]
        self._places = {name: place for place, name in enumerate(self._inputs)}
        for at, step in enumerate(self._steps):
            part, self._places[step[1]] = unrolled(step, self._places, bodies, len(self._forms))
            self._flow.extend(part)
            for inner in part:
                try:
                    self._forms.append(form_made(inner, self._forms))
                except DegreeTooHigh:
                    raise DegreeTooHigh(at) from None
        denominators = [radical(q) for q in self.denominators()]
        self._divisor = multiple(*denominators)

    @property
    def inputs(self):
        """The tuple of the names of the inputs."""
        return self._inputs

    @property
    def steps(self):
        """The tuple of the steps of the program itself."""
        return self._steps

    @property
    def outputs(self):
        """The tuple of the names of the outputs."""
        return self._outputs

    @property
    def procedures(self):
        """The tuple of the procedures: tuples of a name, parameters, steps and the name of the result."""
        return self._procedures

    @property
    def divisor(self):
        """The product of the different primes of the denominators."""
        return self._divisor

    def denominators(self):
        """The list of the q of the executed "share" and "constant" steps, in order, as they are written."""
        return [step[2] for step in self._flow if step[0] in ("share", "constant")]

    def stop_in(self, ring):
        """The first denominator that has no inverse in a ring, or None if the program can be run there."""
        for q in self.denominators():
            if not ring.has_inverse(q):
                return q
        return None

    def text(self):
        """The text of the program, as read_program reads it."""
        lines = []
        for name, given, inner, end in self._procedures:
            lines.append(" ".join(["proc", name, *given]))
            lines.extend([step_line(step) for step in inner])
            lines.append("give " + end)
        lines.append(" ".join(["in", *self._inputs]))
        lines.extend([step_line(step) for step in self._steps])
        lines.append(" ".join(["out", *self._outputs]))
        return "\n".join(lines) + "\n"

    def forms(self):
        """The list of the forms of the outputs."""
        return [self._forms[self._places[name]] for name in self._outputs]

    def form_of(self, name):
        """The form of an input or a target of the program itself."""
        if not is_known(name, self._places):
            raise UnknownName(name)
        return self._forms[self._places[name]]

    def executed(self, word):
        """The number of executed steps with this first item."""
        return len([step for step in self._flow if step[0] == word])

    def flat(self):
        """A program without procedures that has the same executed steps."""
        names = list(self._inputs) + new_names(len(self._flow), self._inputs)
        first = len(self._inputs)
        steps = [named(step, names[first + at], names) for at, step in enumerate(self._flow)]
        return Program(self._inputs, steps, [names[self._places[name]] for name in self._outputs])

    def run(self, ring, *things):
        """The list of the values of the outputs in a ring."""
        if len(things) != len(self._inputs):
            raise WrongCount(len(things))
        for thing in things:
            if not ring.is_thing(thing):
                raise InvalidThing(thing)
        stop = self.stop_in(ring)
        if stop is not None:
            raise NoInverse(stop)
        found = list(things)
        for step in self._flow:
            found.append(thing_made(step, found, ring))
        return [found[self._places[name]] for name in self._outputs]

    def __len__(self):
        return len(self._steps)

    def __eq__(self, other):
        if not isinstance(other, Program) or self._inputs != other._inputs or self._steps != other._steps:
            return False
        return self._outputs == other._outputs and self._procedures == other._procedures

    def __repr__(self):
        return f"Program({len(self._inputs)} inputs, {len(self._steps)} steps, {len(self._outputs)} outputs)"


def checked_procedures(procedures):
    """The dict from the names of procedures to the numbers of their parameters; raises the first error of them."""
    if len(procedures) > MOST_PROCEDURES:
        raise InvalidHead(MOST_PROCEDURES)
    counts = {}
    for index, procedure in enumerate(procedures):
        if not has_head(procedure, counts):
            raise InvalidHead(index)
        name, given, steps, end = procedure
        wrong = first_wrong_step(steps, MOST_INNER_STEPS, given, [*counts, name], counts)
        if wrong is not None:
            raise InvalidStep(index, wrong)
        if not is_known(end, list(given) + [step[1] for step in steps]):
            raise InvalidHead(index)
        counts[name] = len(given)
    return counts


def has_head(value, earlier):
    """Whether any value is a tuple of four items, with a new name, parameters and a list of any steps."""
    if not isinstance(value, tuple) or len(value) != 4:
        return False
    if not is_name(value[0]) or value[0] in earlier:
        return False
    return are_names(value[1], MOST_PARAMETERS) and isinstance(value[2], (list, tuple))


def count_executed(steps, procedures):
    """The number of executed steps of right steps and procedures."""
    counts = {}
    for procedure in procedures:
        counts[procedure[0]] = sum([counts[step[2]] if step[0] == "call" else 1 for step in procedure[2]])
    return sum([counts[step[2]] if step[0] == "call" else 1 for step in steps])


def unrolled(step, places, bodies, free):
    """The pair of the executed steps of a step and the place of its target, where free is the first free place."""
    if step[0] != "call":
        return ([placed(step, places)], free)
    given, steps, end = bodies[step[2]]
    within = {parameter: places[name] for parameter, name in zip(given, step[3])}
    flow = []
    for inner in steps:
        part, within[inner[1]] = unrolled(inner, within, bodies, free + len(flow))
        flow.extend(part)
    return (flow, within[end])


def new_names(count, taken):
    """The list of so many names that are not taken."""
    options = list(LETTERS) + [one + other for one in LETTERS for other in LETTERS]
    return [name for name in options if is_name(name) and name not in taken][:count]
