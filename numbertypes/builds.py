"""Rings over one other ring: matrices, triangles, polynomials, duals and roots."""

from numbertypes.rings import Ring, check_bases, check_number
from numbertypes.slotwise import Slotwise, choices, size_together

MOST_SQUARE = 99


class Matrices(Ring):
    """The square matrices with 2 or 3 rows."""

    def __init__(self, size, base):
        check_number(size, 2, 3)
        check_bases(base)
        self._rows = size
        self._base = base
        super().__init__(("matrices", size, base), (base.ones, base.ones, base.ones), (base,))

    def size(self):
        """The number of things, or None if there are endlessly many."""
        return size_together([self._base.size()] * (self._rows * self._rows))

    def is_thing(self, value):
        """Whether any value is a tuple of rows, tuples of things of the base."""
        if not isinstance(value, tuple) or len(value) != self._rows:
            return False
        return all([self._is_row(row) for row in value])

    def _is_row(self, value):
        if not isinstance(value, tuple) or len(value) != self._rows:
            return False
        return all([self._base.is_thing(part) for part in value])

    def _plus(self, x, y):
        return tuple([tuple([self._base._plus(a, b) for a, b in zip(row, other)]) for row, other in zip(x, y)])

    def _product(self, x, y):
        columns = list(zip(*y))
        return tuple([tuple([self._joined(row, column) for column in columns]) for row in x])

    def _joined(self, row, column):
        result = self._base.zero()
        for a, b in zip(row, column):
            result = self._base._plus(result, self._base._product(a, b))
        return result

    def _times(self, k, x):
        return tuple([tuple([self._base._times(k, a) for a in row]) for row in x])

    def _share(self, p, q):
        places = range(self._rows)
        return tuple([tuple([self._base._share(p if i == j else 0, q) for j in places]) for i in places])

    def _unit(self, row, column):
        # The matrix with a one at one place only.
        places = range(self._rows)
        return tuple([tuple([self._base._share(int((i, j) == (row, column)), 1) for j in places]) for i in places])

    def _listing(self):
        rows = choices([self._base._listing()] * self._rows)
        return choices([rows] * self._rows)

    def _square_samples(self):
        return [self._unit(0, 1)]

    def _swap_samples(self):
        return [(self._unit(0, 0), self._unit(0, 1))]


class Triangles(Slotwise):
    """The matrices with two rows and a zero below; (a, b, c) has the rows a b and 0 c."""

    def __init__(self, base):
        check_bases(base)
        self._base = base
        super().__init__(("triangles", base), (base.ones, base.ones, base.ones), (base, base, base), (1, 0, 1))

    def _product(self, x, y):
        base = self._base
        a, b, c = x
        d, e, f = y
        return (base._product(a, d), base._plus(base._product(a, e), base._product(b, f)), base._product(c, f))

    def _square_samples(self):
        return [self._unit(1)]

    def _swap_samples(self):
        return [(self._unit(0), self._unit(1))]


class Polynomials(Ring):
    """The polynomials: tuples of things of the base by ascending powers, the last one not zero."""

    def __init__(self, base):
        check_bases(base)
        self._base = base
        super().__init__(("polynomials", base), (base.ones, base.swaps, base.ones), (base,))

    def size(self):
        """None, as there are endlessly many powers."""
        return None

    def is_thing(self, value):
        """Whether any value is a tuple of things of the base, the last one not zero."""
        if not isinstance(value, tuple) or not all([self._base.is_thing(part) for part in value]):
            return False
        return len(value) == 0 or value[-1] != self._base.zero()

    def _trimmed(self, parts):
        size = len(parts)
        while size > 0 and parts[size - 1] == self._base.zero():
            size -= 1
        return tuple(parts[:size])

    def _plus(self, x, y):
        most = max(len(x), len(y))
        zero = self._base.zero()
        longer = [part + (zero,) * (most - len(part)) for part in (x, y)]
        return self._trimmed([self._base._plus(a, b) for a, b in zip(longer[0], longer[1])])

    def _product(self, x, y):
        base = self._base
        result = [base.zero()] * (len(x) + len(y))
        for i, a in enumerate(x):
            for j, b in enumerate(y):
                result[i + j] = base._plus(result[i + j], base._product(a, b))
        return self._trimmed(result)

    def _times(self, k, x):
        return self._trimmed([self._base._times(k, a) for a in x])

    def _share(self, p, q):
        return self._trimmed([self._base._share(p, q)])

    def _square_samples(self):
        return [(self._base.zero(), self._base.one())]

    def _swap_samples(self):
        return [(self._trimmed([x]), self._trimmed([y])) for x, y in self._base._swap_samples()]


class Extended(Slotwise):
    """The things a + b s, as pairs (a, b), where s commutes with everything and ss is an integer times one."""

    def __init__(self, parts, square, base):
        self._square = square
        self._base = base
        super().__init__(parts, (base.ones, base.swaps, base.ones), (base, base), (1, 0))

    def _product(self, x, y):
        base = self._base
        a, b = x
        c, d = y
        squared = base._times(self._square, base._product(b, d))
        return (base._plus(base._product(a, c), squared), base._plus(base._product(a, d), base._product(b, c)))

    def _square_samples(self):
        return [self._unit(1)]

    def _swap_samples(self):
        return [(self._placed(0, x), self._placed(0, y)) for x, y in self._base._swap_samples()]


class Duals(Extended):
    """The things a + b t with tt = 0."""

    def __init__(self, base):
        check_bases(base)
        super().__init__(("duals", base), 0, base)


class Roots(Extended):
    """The things a + b r with rr an integer from -99 to 99 times one."""

    def __init__(self, square, base):
        check_number(square, -MOST_SQUARE, MOST_SQUARE)
        check_bases(base)
        super().__init__(("roots", square, base), square, base)
