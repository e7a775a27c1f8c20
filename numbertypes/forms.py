"""Forms: sums of words of at most two names, with shares."""

from numbertypes.errors import (
    DegreeTooHigh,
    InvalidName,
    InvalidTerm,
    InvalidText,
    InvalidThing,
    NoInverse,
    UnknownName,
)
from numbertypes.integers import (
    is_int,
    is_name,
    multiple,
    product_of_shares,
    read_digits,
    share,
    sum_of_shares,
    written_share,
)

MOST_DEGREE = 2
MOST_DIGITS = 12
NOTHING = (0, 1)


def is_word(value):
    """Whether any value is a word: a tuple of at most two names."""
    if not isinstance(value, tuple) or len(value) > MOST_DEGREE:
        return False
    return all([is_name(name) for name in value])


def is_term(value):
    """Whether any value is a term: a tuple of a word, an integer and an integer from 1 on."""
    if not isinstance(value, tuple) or len(value) != 3:
        return False
    word, p, q = value
    return is_word(word) and is_int(p) and is_int(q) and q >= 1


def gathered(pairs):
    """The dict from words to shares that are not zero, in the order of the text, for pairs (word, share)."""
    found = {}
    for word, amount in pairs:
        found[word] = sum_of_shares(found[word], amount) if word in found else amount
    ordered = sorted([(-len(word), word) for word in found if found[word] != NOTHING])
    return {word: found[word] for _, word in ordered}


def form_of(pairs):
    """The form with these pairs (word, share), in which words may come several times."""
    made = Form()
    made._shares = gathered(pairs)
    return made


class Form:
    """A sum of words of degree 0 to 2 with shares that are not zero."""

    def __init__(self, terms=()):
        for at, term in enumerate(terms):
            if not is_term(term):
                raise InvalidTerm(at)
        self._shares = gathered([(word, share(p, q)) for word, p, q in terms])

    @staticmethod
    def read(text):
        """The form with a text; InvalidText(0) for any value that is none."""
        if not isinstance(text, str):
            raise InvalidText(0)
        return form_of(read_pairs(text))

    @staticmethod
    def word(*names):
        """The form of one word with the share 1."""
        for name in names:
            if not is_name(name):
                raise InvalidName(name)
        if len(names) > MOST_DEGREE:
            raise DegreeTooHigh(None)
        return form_of([(names, (1, 1))])

    @property
    def degree(self):
        """The greatest degree of the words, 0 for zero."""
        return max([len(word) for word in self._shares], default=0)

    @property
    def divisor(self):
        """The least common multiple of the denominators, 1 for zero."""
        denominators = [q for _, q in self._shares.values()]
        return multiple(*denominators)

    def text(self):
        """The text of the form, as read reads it."""
        result = ""
        for word, (p, q) in self._shares.items():
            sign = " - " if p < 0 else " + "
            if result == "":
                sign = "-" if p < 0 else ""
            result = result + sign + term_text(word, abs(p), q)
        return "0" if result == "" else result

    def words(self):
        """The list of the words, in the order of the text."""
        return list(self._shares)

    def names(self):
        """The ascending list of the names in the words."""
        return sorted(set([name for word in self._shares for name in word]))

    def share_of(self, *names):
        """The share of the word of these names."""
        return self._shares.get(names, NOTHING)

    def scaled(self, p, q=1):
        """The form times p / q."""
        factor = share(p, q)
        return form_of([(word, product_of_shares(factor, amount)) for word, amount in self._shares.items()])

    def value(self, ring, things):
        """The value in a ring, for a dict from names to things."""
        for name in self.names():
            if name not in things:
                raise UnknownName(name)
        for name in self.names():
            if not ring.is_thing(things[name]):
                raise InvalidThing(things[name])
        for _, q in self._shares.values():
            if not ring.has_inverse(q):
                raise NoInverse(q)
        total = ring.zero()
        for word, (p, q) in self._shares.items():
            total = ring._plus(total, ring._scaled(p, q, thing_of_word(word, ring, things)))
        return total

    def __add__(self, other):
        if not isinstance(other, Form):
            return NotImplemented
        return form_of(list(self._shares.items()) + list(other._shares.items()))

    def __sub__(self, other):
        if not isinstance(other, Form):
            return NotImplemented
        return self + other.scaled(-1)

    def __neg__(self):
        return self.scaled(-1)

    def __mul__(self, other):
        if not isinstance(other, Form):
            return NotImplemented
        if self.degree + other.degree > MOST_DEGREE:
            raise DegreeTooHigh(None)
        return form_of(
            [(v + w, product_of_shares(x, y)) for v, x in self._shares.items() for w, y in other._shares.items()]
        )

    def __len__(self):
        return len(self._shares)

    def __eq__(self, other):
        return isinstance(other, Form) and self._shares == other._shares

    def __repr__(self):
        return f"Form({self.text()})"


def thing_of_word(word, ring, things):
    """The product of the things of the names of a word."""
    if len(word) == 0:
        return ring.one()
    if len(word) == 1:
        return things[word[0]]
    return ring._product(things[word[0]], things[word[1]])


def term_text(word, p, q):
    """The text of a term without its sign."""
    names = "*".join(word)
    if names == "":
        return written_share(p, q)
    return names if (p, q) == (1, 1) else written_share(p, q) + "*" + names


def read_pairs(text):
    """The pairs (word, share) of the text of a form; InvalidText(0) if it is none."""
    negative = text.startswith("-")
    parts = text[1:].split(" ") if negative else text.split(" ")
    if len(parts) % 2 == 0:
        raise InvalidText(0)
    pairs = [read_term(parts[0], negative)]
    for at in range(1, len(parts), 2):
        if parts[at] not in ("+", "-"):
            raise InvalidText(0)
        pairs.append(read_term(parts[at + 1], parts[at] == "-"))
    return pairs


def read_term(text, negative):
    """The pair (word, share) of a term without its sign."""
    number, *names = text.split("*")
    amount = (1, 1)
    if is_name(number):
        names = [number, *names]
    else:
        amount = read_share(number)
    word = tuple(names)
    if amount is None or not is_word(word):
        raise InvalidText(0)
    return (word, (-amount[0], amount[1]) if negative else amount)


def read_share(text):
    """The share of a text p or p/q, or None."""
    pieces = text.split("/")
    numbers = [read_digits(piece, MOST_DIGITS) for piece in pieces]
    if None in numbers or len(numbers) > 2:
        return None
    if len(numbers) == 1:
        return (numbers[0], 1)
    return None if numbers[1] == 0 else share(numbers[0], numbers[1])
