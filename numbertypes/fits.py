"""In which rings a program is right for a wish, and papers that tell it of one ring."""

from numbertypes.errors import UnknownName, WrongCount
from numbertypes.forms import form_of
from numbertypes.integers import common, divides, is_between, is_int, multiple
from numbertypes.papers import as_tuple, copied, is_list_of
from numbertypes.realms import realm_with


def realm_of(program, wish):
    """The realm of the rings in which the program is right for the wish."""
    return realm_where_zero(program.divisor, differences(program, wish))


def fits(program, wish, ring):
    """Whether the program is right for the wish in the ring."""
    return ring in realm_of(program, wish)


def agreement(one, other):
    """The realm of the rings in which both programs can be run and give the same results."""
    for mine, others in ((one.inputs, other.inputs), (one.outputs, other.outputs)):
        if len(mine) != len(others):
            raise WrongCount(len(others))
    names = {old: new for old, new in zip(other.inputs, one.inputs)}
    parts = [mine - renamed(others, names) for mine, others in zip(one.forms(), other.forms())]
    return realm_where_zero(multiple(one.divisor, other.divisor), parts)


def renamed(form, names):
    """The form with other names, for a dict from all old names to new ones."""
    return form_of([(tuple([names[name] for name in word]), form.share_of(*word)) for word in form.words()])


def differences(program, wish):
    """The list of the forms of the outputs less those of the wish."""
    if len(wish) != len(program.outputs):
        raise WrongCount(len(wish))
    stranger = strange_name(program, wish)
    if stranger is not None:
        raise UnknownName(stranger)
    return [made - wished for made, wished in zip(program.forms(), wish.forms())]


def strange_name(program, wish):
    """The first name of the wish, ascending, that is no input of the program, or None."""
    names = sorted(set([name for form in wish.forms() for name in form.names()]))
    strange = [name for name in names if name not in program.inputs]
    return None if len(strange) == 0 else strange[0]


def goes_with(program, wish):
    """Whether the wish has a form for each output, and no names but those of the inputs."""
    return len(wish) == len(program.outputs) and strange_name(program, wish) is None


def whole_form(form):
    """The form times its divisor, so that all shares are whole."""
    return form.scaled(form.divisor)


def one_sums(form):
    """The pairs (names, number) by which a whole form is found to be zero for inputs that are zero or one.

    If it is zero for fewer ones, number times one is its value for ones for these names and zeros for all others.
    """
    sums = [((), form.share_of()[0])]
    for name in form.names():
        sums.append(((name,), form.share_of(name)[0] + form.share_of(name, name)[0]))
    for one, other in sorted(set([(min(word), max(word)) for word in form.words() if is_swap(word)])):
        sums.append(((one, other), form.share_of(one, other)[0] + form.share_of(other, one)[0]))
    return sums


def is_swap(word):
    """Whether a word has two different names."""
    return len(word) == 2 and word[0] != word[1]


def square_numbers(form):
    """The pairs (name, number) of the squares in a whole form."""
    return [(name, form.share_of(name, name)[0]) for name in form.names()]


def swap_numbers(form):
    """The pairs (word, number) of the words with two different names in a whole form."""
    return [(word, form.share_of(*word)[0]) for word in form.words() if is_swap(word)]


def realm_where_zero(divisor, forms):
    """The realm of the rings in which the divisor has an inverse and the forms are zero for all things."""
    wholes = [whole_form(form) for form in forms]
    ones = [number for form in wholes for _, number in one_sums(form)]
    swaps = [number for form in wholes for _, number in swap_numbers(form)]
    squares = [number for form in wholes for _, number in square_numbers(form)]
    return realm_with(divisor, common(*ones), common(*swaps), common(*squares))


def breaking_things(form, ring):
    """A dict from some names to things for which the form is not zero, if all others are zero, or None.

    The divisor of the form has an inverse in the ring. The things are of the first kind of [16] that there is.
    """
    whole = whole_form(form)
    for names, number in one_sums(whole):
        if not divides(ring.ones, number):
            return {name: ring.one() for name in names}
    for name, number in square_numbers(whole):
        x = ring.square_breaker(number)
        if x is not None:
            return {name: x}
    for word, number in swap_numbers(whole):
        pair = ring.swap_breaker(number)
        if pair is not None:
            return {word[0]: pair[0], word[1]: pair[1]}
    return None


def verdict(program, wish, ring):
    """A Right, Fails or Stops that holds."""
    parts = differences(program, wish)
    stop = program.stop_in(ring)
    if stop is not None:
        return Stops(program, wish, ring, stop)
    for output, part in enumerate(parts):
        things = breaking_things(part, ring)
        if things is not None:
            inputs = [things.get(name, ring.zero()) for name in program.inputs]
            return Fails(program, wish, ring, inputs, output)
    return Right(program, wish, ring)


class Verdict:
    """The base class of the papers that tell whether a program is right for a wish in a ring."""

    def __init__(self, program, wish, ring):
        self._program = program
        self._wish = wish
        self._ring = ring

    @property
    def program(self):
        """The program."""
        return self._program

    @property
    def wish(self):
        """The wish."""
        return self._wish

    @property
    def ring(self):
        """The ring."""
        return self._ring

    def told(self):
        """What is told, as a word."""
        return "open"

    def holds(self):
        """Whether the paper is right."""
        return False

    def __bool__(self):
        return False

    def __repr__(self):
        return f"Verdict({self.told()})"


class Right(Verdict):
    """The paper that tells that the program is right."""

    def __init__(self, program, wish, ring):
        super().__init__(program, wish, ring)

    def told(self):
        """What is told, as a word."""
        return "right"

    def holds(self):
        """Whether the program is right for the wish in the ring."""
        return goes_with(self._program, self._wish) and fits(self._program, self._wish, self._ring)

    def __bool__(self):
        return True


class Fails(Verdict):
    """The paper that tells inputs for which an output is not what is wished."""

    def __init__(self, program, wish, ring, inputs, output):
        super().__init__(program, wish, ring)
        self._inputs = copied(inputs)
        self._output = copied(output)

    @property
    def inputs(self):
        """The inputs, which may be any value."""
        return as_tuple(self._inputs)

    @property
    def output(self):
        """The index of the output, which may be any value."""
        return copied(self._output)

    def told(self):
        """What is told, as a word."""
        return "fails"

    def holds(self):
        """Whether the program can be run with these inputs and this output is not what is wished."""
        program, wish, ring = self._program, self._wish, self._ring
        if not is_list_of(self._inputs, len(program.inputs)) or not goes_with(program, wish):
            return False
        if not all([ring.is_thing(thing) for thing in self._inputs]) or program.stop_in(ring) is not None:
            return False
        if not is_between(self._output, 0, len(program.outputs) - 1):
            return False
        things = {name: thing for name, thing in zip(program.inputs, self._inputs)}
        made = program.run(ring, *self._inputs)[self._output]
        return made != wish.forms()[self._output].value(ring, things)

    def __bool__(self):
        return False


class Stops(Verdict):
    """The paper that tells a denominator of the program that has no inverse in the ring."""

    def __init__(self, program, wish, ring, divisor):
        super().__init__(program, wish, ring)
        self._divisor = copied(divisor)

    @property
    def divisor(self):
        """The denominator, which may be any value."""
        return copied(self._divisor)

    def told(self):
        """What is told, as a word."""
        return "stops"

    def holds(self):
        """Whether the denominator is one of an executed step and has no inverse."""
        if not is_int(self._divisor) or self._divisor not in self._program.denominators():
            return False
        return not self._ring.has_inverse(self._divisor)

    def __bool__(self):
        return False
