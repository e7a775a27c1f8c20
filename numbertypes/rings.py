"""What all rings have, and the rings without a base: Whole, Fractions, Rests and Sets."""

from numbertypes.errors import InvalidNumber, InvalidRing, InvalidThing, NoInverse, TooMany
from numbertypes.integers import (
    common,
    divides,
    inverse_modulo,
    is_between,
    is_int,
    is_share,
    product_of_shares,
    radical,
    share,
    stripped,
    sum_of_shares,
)

MOST_MODULUS = 1000000000
MOST_POINTS = 10


class Ring:
    """The base class of all rings.

    Each kind of ring defines is_thing and size, and behind the checks of the public methods the plain
    ones with an underscore: _plus, _product, _times, _share, _listing and _square_samples, and
    _swap_samples where products need not commute. Its __init__ sets what these need, then calls this one.
    """

    MOST_THINGS = 5000
    MOST_DEPTH = 4

    def __init__(self, parts, numbers, bases):
        # The parts are the word of the text and the arguments: rings are equal if their parts are.
        self._parts = parts
        self._ones, self._swaps, self._squares = numbers
        self._bases = bases
        self._depth = depth_over(bases)
        self._zero = self._share(0, 1)
        self._one = self._share(1, 1)

    @property
    def ones(self):
        """The least h from 1 on such that h times one is zero, or 0."""
        return self._ones

    @property
    def swaps(self):
        """The least h from 1 on such that h times (xy - yx) is zero for all things, or 0."""
        return self._swaps

    @property
    def squares(self):
        """The least h from 1 on such that h times (xx - x) is zero for all things, or 0."""
        return self._squares

    @property
    def depth(self):
        """1 without a base, otherwise one more than the greatest depth of the bases."""
        return self._depth

    def text(self):
        """The text of the ring, as read_ring reads it."""
        word, *given = self._parts
        if len(given) == 0:
            return word
        return word + "(" + ", ".join([part.text() if isinstance(part, Ring) else str(part) for part in given]) + ")"

    def has_inverse(self, q):
        """Whether an integer has an inverse."""
        if self._ones != 0:
            return common(q, self._ones) == 1
        return all([base.has_inverse(q) for base in self._bases])

    def size(self):
        """The number of things, or None if there are endlessly many."""
        raise NotImplementedError("each kind of ring has a size of its own")

    def is_thing(self, value):
        """Whether any value is a thing."""
        raise NotImplementedError("each kind of ring has things of its own")

    def zero(self):
        """The thing that changes nothing in sums."""
        return self._zero

    def one(self):
        """The thing that changes nothing in products."""
        return self._one

    def plus(self, x, y):
        """The sum of two things."""
        self._check(x, y)
        return self._plus(x, y)

    def minus(self, x, y):
        """The difference of two things."""
        self._check(x, y)
        return self._minus(x, y)

    def product(self, x, y):
        """The product of two things in this order."""
        self._check(x, y)
        return self._product(x, y)

    def negative(self, x):
        """The thing that makes zero with x."""
        self._check(x)
        return self._times(-1, x)

    def times(self, k, x):
        """The thing k times x, for an integer k."""
        self._check(x)
        return self._times(k, x)

    def share(self, p, q=1):
        """The thing for p / q."""
        if not is_int(q) or q < 1:
            raise InvalidNumber(q)
        if not self.has_inverse(q):
            raise NoInverse(q)
        return self._share(p, q)

    def square_breaker(self, k):
        """A thing x such that k times (xx - x) is not zero, or None."""
        for x in self._square_samples():
            if self._times(k, self._minus(self._product(x, x), x)) != self._zero:
                return x
        return None

    def swap_breaker(self, k):
        """A pair (x, y) such that k times (xy - yx) is not zero, or None."""
        for x, y in self._swap_samples():
            if self._times(k, self._minus(self._product(x, y), self._product(y, x))) != self._zero:
                return (x, y)
        return None

    def things(self):
        """A generator of all things, ascending."""
        size = self.size()
        if size is None or size > self.MOST_THINGS:
            raise TooMany(self.MOST_THINGS)
        yield from self._listing()

    def __eq__(self, other):
        return isinstance(other, Ring) and self._parts == other._parts

    def __repr__(self):
        return f"Ring({self.text()})"

    def _check(self, *given):
        for value in given:
            if not self.is_thing(value):
                raise InvalidThing(value)

    def _minus(self, x, y):
        return self._plus(x, self._times(-1, y))

    def _scaled(self, p, q, x):
        # p / q times a thing, for a q that has an inverse.
        whole = self._times(p, x)
        return whole if q == 1 else self._product(self._share(1, q), whole)

    def _swap_samples(self):
        # Pairs of things of which one breaks k times (xy - yx) = 0 if any pair does.
        return []


def depth_over(bases):
    """The depth of a ring over these bases."""
    return 1 + max([base.depth for base in bases], default=0)


def check_bases(*bases):
    """Raises InvalidRing for the first value that is no ring, TooMany if a ring over them would be too deep."""
    for base in bases:
        if not isinstance(base, Ring):
            raise InvalidRing(base)
    if depth_over(bases) > Ring.MOST_DEPTH:
        raise TooMany(Ring.MOST_DEPTH)


def check_number(value, least, most):
    """Raises InvalidNumber for any value that is no integer from least to most."""
    if not is_between(value, least, most):
        raise InvalidNumber(value)


class Shares(Ring):
    """What the rings have in common whose things are shares."""

    def size(self):
        """None, as there are endlessly many shares."""
        return None

    def _plus(self, x, y):
        return sum_of_shares(x, y)

    def _product(self, x, y):
        return product_of_shares(x, y)

    def _times(self, k, x):
        return share(k * x[0], x[1])

    def _share(self, p, q):
        return share(p, q)

    def _square_samples(self):
        return [(2, 1)]


class Whole(Shares):
    """The integers, also with the inverses of some primes: those of the argument."""

    def __init__(self, inverse=1):
        self._primes = radical(inverse)
        super().__init__(("whole", self._primes), (0, 1, 0), ())

    def has_inverse(self, q):
        """Whether all primes of the integer have an inverse."""
        return stripped(abs(q), self._primes) == 1

    def is_thing(self, value):
        """Whether any value is a share whose denominator has an inverse."""
        return is_share(value) and self.has_inverse(value[1])

    def _has_rests(self, modulus):
        # Whether things can be counted modulo an integer.
        return common(modulus, self._primes) == 1

    def _rest(self, x, modulus):
        return x[0] * inverse_modulo(x[1], modulus) % modulus


class Fractions(Shares):
    """All shares."""

    def __init__(self):
        super().__init__(("fractions",), (0, 1, 0), ())

    def has_inverse(self, q):
        """Whether an integer is not zero."""
        return q != 0

    def is_thing(self, value):
        """Whether any value is a share."""
        return is_share(value)


class Rests(Ring):
    """The integers modulo a number."""

    def __init__(self, modulus):
        check_number(modulus, 2, MOST_MODULUS)
        self._modulus = modulus
        super().__init__(("rests", modulus), (modulus, 1, modulus // common(modulus, 2)), ())

    def size(self):
        """The modulus."""
        return self._modulus

    def is_thing(self, value):
        """Whether any value is an integer from 0 to the modulus less 1."""
        return is_between(value, 0, self._modulus - 1)

    def _plus(self, x, y):
        return (x + y) % self._modulus

    def _product(self, x, y):
        return x * y % self._modulus

    def _times(self, k, x):
        return k * x % self._modulus

    def _share(self, p, q):
        return p * inverse_modulo(q, self._modulus) % self._modulus

    def _has_rests(self, modulus):
        # Whether things can be counted modulo an integer.
        return divides(modulus, self._modulus)

    def _rest(self, x, modulus):
        return x % modulus

    def _listing(self):
        return list(range(self._modulus))

    def _square_samples(self):
        return [2 % self._modulus]


class Sets(Ring):
    """The sets of some points, as binary places of an integer; the product has the common points."""

    def __init__(self, points):
        check_number(points, 1, MOST_POINTS)
        self._full = (1 << points) - 1
        super().__init__(("sets", points), (2, 1, 1), ())

    def size(self):
        """The number of sets."""
        return self._full + 1

    def is_thing(self, value):
        """Whether any value is an integer with no other places than those of the points."""
        return is_between(value, 0, self._full)

    def _plus(self, x, y):
        return x ^ y

    def _product(self, x, y):
        return x & y

    def _times(self, k, x):
        return x if k % 2 == 1 else 0

    def _share(self, p, q):
        # q is odd here, so the thing of 1 / q is one itself.
        return self._times(p, self._full)

    def _listing(self):
        return list(range(self._full + 1))

    def _square_samples(self):
        # All things are their own squares.
        return []
