"""Realms: sets of rings that are told by a set of primes and three integers."""

from numbertypes.builds import Matrices
from numbertypes.errors import EmptyRealm, InvalidNumber, TooGreat
from numbertypes.integers import common, divides, is_int, multiple, radical, stripped, written
from numbertypes.rings import Rests, Ring, Whole
from numbertypes.wider import Pairs, Twists

MOST_NUMBER = 1000000


def normal_numbers(inverse, ones, swaps, squares):
    """The four numbers of the normal form, for an inverse that is a product of different primes."""
    ones = common(ones, 2 * squares)
    squares = common(squares, ones)
    swaps = common(swaps, squares)
    rests = [stripped(number, inverse) for number in (ones, swaps, squares)]
    return (1 if ones != 0 else inverse, *rests)


def realm_with(inverse, ones, swaps, squares):
    """The realm with these numbers; inverse is a product of different primes, of any size."""
    made = Realm()
    made._normal = normal_numbers(inverse, ones, swaps, squares)
    return made


class Realm:
    """All rings in which inverse has an inverse and whose three numbers divide those of the realm."""

    def __init__(self, *, inverse=1, ones=0, swaps=0, squares=0):
        primes = radical(inverse)
        for number in (ones, swaps, squares):
            if not is_int(number) or number < 0:
                raise InvalidNumber(number)
        self._normal = normal_numbers(primes, ones, swaps, squares)

    @staticmethod
    def everywhere():
        """The realm of all rings."""
        return Realm()

    @staticmethod
    def commuting():
        """The realm of all rings in which products commute."""
        return Realm(swaps=1)

    @staticmethod
    def nowhere():
        """The empty realm."""
        return Realm(ones=1)

    @property
    def inverse(self):
        """The product of the different primes that have an inverse in all rings, 1 if ones is not 0."""
        return self._normal[0]

    @property
    def ones(self):
        """The number that the ones of all rings divide."""
        return self._normal[1]

    @property
    def swaps(self):
        """The number that the swaps of all rings divide."""
        return self._normal[2]

    @property
    def squares(self):
        """The number that the squares of all rings divide."""
        return self._normal[3]

    def within(self, other):
        """Whether all rings of this realm belong to the other one."""
        if self.ones == 0:
            return other.ones == 0 and divides(other.inverse, self.inverse) and divides(self.swaps, other.swaps)
        if common(other.inverse, self.ones) != 1 or not divides(self.ones, other.ones):
            return False
        return divides(self.swaps, other.swaps) and divides(self.squares, other.squares)

    def has_inverse(self, q):
        """Whether an integer has an inverse in all rings of the realm."""
        if self.ones != 0:
            return common(q, self.ones) == 1
        return stripped(abs(q), self.inverse) == 1

    def sample(self):
        """A ring with the numbers of the realm and no other inverses than those of all its rings."""
        if self.ones == 1:
            raise EmptyRealm()
        if max(self._normal) > MOST_NUMBER:
            raise TooGreat(MOST_NUMBER)
        if self.ones == 0:
            return endless_ring(self.inverse, self.swaps)
        return ring_of_ones(self.ones, self.swaps, self.squares)

    def __contains__(self, x):
        if not isinstance(x, Ring) or not x.has_inverse(self.inverse):
            return False
        return divides(x.ones, self.ones) and divides(x.swaps, self.swaps) and divides(x.squares, self.squares)

    def __and__(self, other):
        if not isinstance(other, Realm):
            return NotImplemented
        return realm_with(
            multiple(self.inverse, other.inverse),
            common(self.ones, other.ones),
            common(self.swaps, other.swaps),
            common(self.squares, other.squares),
        )

    def __or__(self, other):
        if not isinstance(other, Realm):
            return NotImplemented
        return realm_with(
            joined_inverse(self, other),
            multiple(self.ones, other.ones),
            multiple(self.swaps, other.swaps),
            multiple(self.squares, other.squares),
        )

    def __bool__(self):
        return bool(self.ones != 1)

    def __eq__(self, other):
        return isinstance(other, Realm) and self._normal == other._normal

    def __repr__(self):
        return f"Realm({listed(self._normal)})"


def listed(numbers):
    """The text of a list of integers of any length."""
    return ", ".join([written(number) for number in numbers])


def joined_inverse(one, other):
    """The inverse of the join of two realms."""
    if one.ones != 0:
        # This is 1 if the ones of the other realm is not 0 either.
        return stripped(other.inverse, one.ones)
    return common(one.inverse, other.inverse) if other.ones == 0 else stripped(one.inverse, other.ones)


def endless_ring(inverse, swaps):
    """A ring with ones and squares 0, these swaps, and the inverses of the primes of inverse only."""
    base = Whole(inverse)
    if swaps == 0:
        return Matrices(2, base)
    return base if swaps == 1 else Twists(swaps, base)


def ring_of_ones(ones, swaps, squares):
    """A ring with these three numbers, which are those of a realm with ones above 1."""
    base = Rests(ones)
    if swaps == 1 and base.squares == squares:
        return base
    if squares == ones:
        return Twists(swaps, base)
    # The squares are half of the ones here, as they are in the base, and the swaps divide this half.
    return Pairs(base, Twists(swaps, Rests(swaps)))
