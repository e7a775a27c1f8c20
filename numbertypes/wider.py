"""Words over a ring, pairs of rings, quaternions, rings with swapped products, and twists."""

from numbertypes.errors import InvalidNumber, InvalidRing, NotCommuting
from numbertypes.integers import common, is_between, multiple
from numbertypes.rings import Rests, Ring, Whole, check_bases, check_number
from numbertypes.slotwise import Slotwise, choices, size_together

MOST_LETTERS = 3
MOST_PART = 1000000


class Words(Ring):
    """Sums of words of letters with things of the base, which commute with the letters.

    A thing is a tuple of pairs (word, thing of the base), ascending, no word twice, no thing zero.
    """

    def __init__(self, letters, base):
        check_number(letters, 1, MOST_LETTERS)
        check_bases(base)
        self._letters = letters
        self._base = base
        swaps = base.swaps if letters == 1 else base.ones
        super().__init__(("words", letters, base), (base.ones, swaps, base.ones), (base,))

    def size(self):
        """None, as there are endlessly many words."""
        return None

    def is_thing(self, value):
        """Whether any value is a tuple of pairs as a thing has them."""
        if not isinstance(value, tuple) or not all([self._is_pair(pair) for pair in value]):
            return False
        return all([value[k - 1][0] < value[k][0] for k in range(1, len(value))])

    def _is_pair(self, value):
        if not isinstance(value, tuple) or len(value) != 2:
            return False
        word, thing = value
        if not isinstance(word, tuple) or not all([is_between(letter, 0, self._letters - 1) for letter in word]):
            return False
        return self._base.is_thing(thing) and thing != self._base.zero()

    def _gathered(self, pairs):
        # The thing with these pairs, in which words may come several times and things may be zero.
        base = self._base
        found = {}
        for word, thing in pairs:
            found[word] = base._plus(found[word], thing) if word in found else thing
        return tuple([(word, found[word]) for word in sorted(found) if found[word] != base.zero()])

    def _plus(self, x, y):
        return self._gathered(x + y)

    def _product(self, x, y):
        return self._gathered([(v + w, self._base._product(a, b)) for v, a in x for w, b in y])

    def _times(self, k, x):
        return self._gathered([(word, self._base._times(k, a)) for word, a in x])

    def _share(self, p, q):
        return self._gathered([((), self._base._share(p, q))])

    def _letter(self, letter):
        return (((letter,), self._base.one()),)

    def _square_samples(self):
        return [self._letter(0)]

    def _swap_samples(self):
        if self._letters > 1:
            return [(self._letter(0), self._letter(1))]
        return [(self._gathered([((), x)]), self._gathered([((), y)])) for x, y in self._base._swap_samples()]


class Pairs(Slotwise):
    """The pairs of things of two rings, each for itself."""

    def __init__(self, one, other):
        check_bases(one, other)
        numbers = (
            multiple(one.ones, other.ones),
            multiple(one.swaps, other.swaps),
            multiple(one.squares, other.squares),
        )
        super().__init__(("pairs", one, other), numbers, (one, other), (1, 1))

    def _product(self, x, y):
        return tuple([slot._product(a, b) for slot, a, b in zip(self._slots, x, y)])

    def _square_samples(self):
        return [self._placed(at, x) for at, slot in enumerate(self._slots) for x in slot._square_samples()]

    def _swap_samples(self):
        return [
            (self._placed(at, x), self._placed(at, y))
            for at, slot in enumerate(self._slots)
            for x, y in slot._swap_samples()
        ]


class Quaternions(Slotwise):
    """The things a + b i + c j + d k, as tuples (a, b, c, d), over a ring in which products commute."""

    def __init__(self, base):
        check_bases(base)
        if base.swaps != 1:
            raise NotCommuting()
        self._base = base
        numbers = (base.ones, base.ones // common(base.ones, 2), base.ones)
        super().__init__(("quaternions", base), numbers, (base, base, base, base), (1, 0, 0, 0))

    def _summed(self, *products):
        # Each product is (sign, x, y).
        base = self._base
        result = base.zero()
        for sign, x, y in products:
            result = base._plus(result, base._times(sign, base._product(x, y)))
        return result

    def _product(self, x, y):
        a, b, c, d = x
        e, f, g, h = y
        return (
            self._summed((1, a, e), (-1, b, f), (-1, c, g), (-1, d, h)),
            self._summed((1, a, f), (1, b, e), (1, c, h), (-1, d, g)),
            self._summed((1, a, g), (-1, b, h), (1, c, e), (1, d, f)),
            self._summed((1, a, h), (1, b, g), (-1, c, f), (1, d, e)),
        )

    def _square_samples(self):
        return [self._unit(1)]

    def _swap_samples(self):
        return [(self._unit(1), self._unit(2))]


class Swapped(Ring):
    """The things of the base with the products of the base taken in the other order."""

    def __init__(self, base):
        check_bases(base)
        self._base = base
        super().__init__(("swapped", base), (base.ones, base.swaps, base.squares), (base,))

    def size(self):
        """The number of things, or None if there are endlessly many."""
        return self._base.size()

    def is_thing(self, value):
        """Whether any value is a thing of the base."""
        return self._base.is_thing(value)

    def _plus(self, x, y):
        return self._base._plus(x, y)

    def _product(self, x, y):
        return self._base._product(y, x)

    def _times(self, k, x):
        return self._base._times(k, x)

    def _share(self, p, q):
        return self._base._share(p, q)

    def _listing(self):
        return self._base._listing()

    def _square_samples(self):
        return self._base._square_samples()

    def _swap_samples(self):
        return self._base._swap_samples()


class Twists(Ring):
    """The things a + b x + c y + e z, as tuples (a, b, c, e), with xy = z, where e counts modulo the part."""

    def __init__(self, part, base):
        if not isinstance(base, (Rests, Whole)):
            raise InvalidRing(base)
        if not is_between(part, 1, MOST_PART) or not base._has_rests(part):
            raise InvalidNumber(part)
        self._part = part
        self._base = base
        super().__init__(("twists", part, base), (base.ones, part, base.ones), (base,))

    def size(self):
        """The number of things, or None if there are endlessly many."""
        side = self._base.size()
        return size_together([side, side, side, self._part])

    def is_thing(self, value):
        """Whether any value is a tuple of three things of the base and an integer below the part."""
        if not isinstance(value, tuple) or len(value) != 4:
            return False
        return all([self._base.is_thing(side) for side in value[:3]]) and is_between(value[3], 0, self._part - 1)

    def _plus(self, x, y):
        sides = [self._base._plus(a, b) for a, b in zip(x[:3], y[:3])]
        return tuple(sides + [(x[3] + y[3]) % self._part])

    def _product(self, x, y):
        base = self._base
        a, b, c, _ = x
        d, f, g, _ = y
        return (
            base._product(a, d),
            base._plus(base._product(a, f), base._product(b, d)),
            base._plus(base._product(a, g), base._product(c, d)),
            (self._rest(a) * y[3] + self._rest(d) * x[3] + self._rest(b) * self._rest(g)) % self._part,
        )

    def _rest(self, thing):
        return self._base._rest(thing, self._part)

    def _times(self, k, x):
        sides = [self._base._times(k, a) for a in x[:3]]
        return tuple(sides + [k * x[3] % self._part])

    def _share(self, p, q):
        zero = self._base.zero()
        return (self._base._share(p, q), zero, zero, 0)

    def _listing(self):
        side = self._base._listing()
        return choices([side, side, side, list(range(self._part))])

    def _square_samples(self):
        zero = self._base.zero()
        return [(zero, self._base.one(), zero, 0)]

    def _swap_samples(self):
        zero = self._base.zero()
        one = self._base.one()
        return [((zero, one, zero, 0), (zero, zero, one, 0))]
