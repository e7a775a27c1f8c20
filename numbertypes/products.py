"""The least number of products that make a form, and papers that tell such products."""

from itertools import combinations

from numbertypes.errors import InvalidNumber, NotWhole, TooMany, WrongCount
from numbertypes.forms import Form, form_of
from numbertypes.integers import common, divides, is_between
from numbertypes.lattices import bezout, combined, first_lattice
from numbertypes.normal import alike
from numbertypes.papers import as_tuple, copied
from numbertypes.programs import Program, new_names
from numbertypes.realms import Realm

MOST_NAMES = 4
MOST_MODULUS = 10**12
# No form of at most four names needs more steps than this many.
MOST_TARGETS = 120


def divisors(form):
    """The list of the divisors of the table of a form."""
    check_form(form)
    table = table_of_form(form)
    found = []
    before = 1
    for size in range(1, len(table) + 1):
        numbers = minors(table, size)
        now = common(*numbers)
        found.append(0 if now == 0 else now // before)
        before = now
    return found


def check_form(form):
    """Raises NotWhole for a form with a share that is not whole, TooMany for one with too many names."""
    if form.divisor != 1:
        raise NotWhole(0)
    if len(form.names()) > MOST_NAMES:
        raise TooMany(MOST_NAMES)


def table_of_form(form):
    """The list of the rows of the table of a form with whole shares."""
    names = form.names()
    return [[form.share_of(one, other)[0] for other in names] for one in names]


def minors(table, size):
    """The list of the minors with so many rows and columns."""
    choices = list(combinations(range(len(table)), size))
    return [determinant([[table[a][b] for b in columns] for a in rows]) for rows in choices for columns in choices]


def determinant(rows):
    """The determinant of a square table."""
    if len(rows) == 0:
        return 1
    total = 0
    for at, entry in enumerate(rows[0]):
        part = entry * determinant([row[:at] + row[at + 1 :] for row in rows[1:]])
        total = total + (part if at % 2 == 0 else -part)
    return total


def least_products(form, *, modulus=0):
    """A Factored that holds: as few products as can be that make the form, up to a form of degree at most 1."""
    if not is_between(modulus, 0, MOST_MODULUS) or modulus == 1:
        raise InvalidNumber(modulus)
    check_form(form)
    names = form.names()
    table = table_of_form(form)
    rows = rows_making(table) if modulus == 0 else rows_making_modulo(table, modulus)
    pairs = [(sum_of_names(left, names), sum_of_names(right, names)) for left, right in rows]
    rest = form_of([(word, form.share_of(*word)) for word in form.words() if len(word) < 2])
    return Factored(form, modulus, pairs, rest)


def sum_of_names(numbers, names):
    """The form with these numbers for its names."""
    return form_of([((name,), (number, 1)) for number, name in zip(numbers, names)])


def rows_making(table):
    """As few pairs of rows as can be, the sum of whose products is the table."""
    lattice = first_lattice(len(table), 0, 0)
    for row in table:
        lattice = lattice.with_row(row)
    factors = [lattice.factors(row) for row in table]
    return [([numbers[at] for numbers in factors], row) for at, row in enumerate(lattice.rows())]


def rows_making_modulo(table, modulus):
    """As few pairs of rows as can be, the sum of whose products is the table modulo a number from 2 on.

    Each pair takes away all that it can: a sum of rows whose common divisor is that of the whole table, which
    some sum of columns has as its entry there. What is left then has one divisor less that the modulus does not
    divide.
    """
    found = []
    rest = [[entry % modulus for entry in row] for row in table]
    while any([entry != 0 for row in rest for entry in row]):
        right = richest_row(rest, modulus)
        part, factors = factors_to_common(right, modulus)
        left = [sum_of_products(row, factors) // part % modulus for row in rest]
        found.append((left, right))
        rest = [[entry % modulus for entry in combined(1, row, -times, right)] for row, times in zip(rest, left)]
    return found


def richest_row(rows, modulus):
    """A sum of the rows times integers whose common divisor with the modulus is that of all rows with it."""
    found = rows[0]
    for row in rows[1:]:
        both = found + row
        least = common(modulus, *both)
        # For each prime of the modulus at most one rest of the times fails, so that this is soon done.
        while common(modulus, *found) != least:
            found = [entry % modulus for entry in combined(1, found, 1, row)]
    return found


def factors_to_common(row, modulus):
    """The common divisor of a row and the modulus, and factors whose products with the row have it as their sum."""
    part = modulus
    factors = []
    for entry in row:
        part, s, t = bezout(part, entry)
        factors = [s * factor for factor in factors] + [t]
    return (part, factors)


def sum_of_products(one, other):
    """The sum of the products of the entries of two rows."""
    return sum([x * y for x, y in zip(one, other)])


def is_part(value, names):
    """Whether any value is a form of degree at most 1 with whole shares and with no other names than these."""
    if not isinstance(value, Form) or value.degree > 1 or value.divisor != 1:
        return False
    return all([name in names for name in value.names()])


class Factored:
    """The paper that tells products of forms of degree at most 1 that make a form, and what is left of it."""

    def __init__(self, form, modulus, pairs, rest):
        self._form = form
        self._modulus = modulus
        self._pairs = copied(pairs)
        self._last = copied(rest)

    @property
    def form(self):
        """The form."""
        return self._form

    @property
    def modulus(self):
        """The modulus of the free realm, 0 or from 2 on."""
        return self._modulus

    @property
    def pairs(self):
        """The pairs of forms, which may be any value."""
        return as_tuple(self._pairs)

    @property
    def rest(self):
        """The form that is left, which may be any value."""
        return copied(self._last)

    def holds(self):
        """Whether the products and the rest make the form in the free realm, with as few products as can be."""
        names = self._form.names()
        if not self._has_pairs(names) or not is_part(self._last, names):
            return False
        if len(self._pairs) != len([part for part in divisors(self._form) if not divides(self._modulus, part)]):
            return False
        total = self._last
        for one, other in self._pairs:
            total = total + one * other
        free = Realm(ones=self._modulus, swaps=self._modulus, squares=self._modulus)
        return alike(total, self._form, free)

    def _has_pairs(self, names):
        if not isinstance(self._pairs, (list, tuple)):
            return False
        if not all([isinstance(pair, tuple) and len(pair) == 2 for pair in self._pairs]):
            return False
        return all([is_part(value, names) for pair in self._pairs for value in pair])

    def __len__(self):
        if not isinstance(self._pairs, (list, tuple)):
            return 0
        return len(self._pairs)


def program_of(factored):
    """A program with a "multiply" step for each pair, whose output has the form that the products and the rest make."""
    names = factored.form.names()
    if len(names) == 0:
        raise WrongCount(0)
    writer = Writer(names)
    parts = []
    for one, other in factored.pairs:
        parts.append(writer.put("multiply", writer.put_form(one), writer.put_form(other)))
    if len(parts) == 0 or len(factored.rest) > 0:
        parts.append(writer.put_form(factored.rest))
    output = writer.put_sum(parts)
    return Program(names, writer.written_steps(), [output])


class Writer:
    """Writes steps with new targets."""

    def __init__(self, inputs):
        self._free = new_names(MOST_TARGETS, inputs)
        self._done = []

    def put(self, word, *given):
        """Writes the step with this word and what stands behind its target; the target."""
        target = self._free[len(self._done)]
        self._done.append((word, target, *given))
        return target

    def put_sum(self, names):
        """Writes the steps that make the sum of what one or more names stand for; its name."""
        total = names[0]
        for name in names[1:]:
            total = self.put("add", total, name)
        return total

    def put_form(self, form):
        """Writes the steps that make a form of degree at most 1 with whole shares; its name."""
        parts = [self._put_term(word, form.share_of(*word)[0]) for word in form.words()]
        return self.put("constant", 0, 1) if len(parts) == 0 else self.put_sum(parts)

    def _put_term(self, word, number):
        if len(word) == 0:
            return self.put("constant", number, 1)
        return word[0] if number == 1 else self.put("share", number, 1, word[0])

    def written_steps(self):
        """The list of the steps."""
        return list(self._done)
