"""Rings that are given by tables of their sums and products."""

from numbertypes.errors import InvalidTable, TooMany
from numbertypes.integers import inverse_modulo, is_between, multiple
from numbertypes.rings import Ring

LEAST_THINGS = 2
MOST_TABLE = 16


def is_table(value, size):
    """Whether any value is a list of as many lists of integers below the size as the size says."""
    if not isinstance(value, (list, tuple)) or len(value) != size:
        return False
    return all([is_row(row, size) for row in value])


def is_row(value, size):
    """Whether any value is a list of as many integers below the size as the size says."""
    if not isinstance(value, (list, tuple)) or len(value) != size:
        return False
    return all([is_between(entry, 0, size - 1) for entry in value])


def has_form(plus, times):
    """Whether any two values are tables of one size that a ring may have."""
    if not isinstance(plus, (list, tuple)) or not LEAST_THINGS <= len(plus) <= MOST_TABLE:
        return False
    return is_table(plus, len(plus)) and is_table(times, len(plus))


def is_commutative(rows):
    """Whether the order of two things does not matter."""
    places = range(len(rows))
    return all([rows[x][y] == rows[y][x] for x in places for y in places])


def is_associative(rows):
    """Whether it does not matter which two of three things are taken first."""
    places = range(len(rows))
    return all([rows[rows[x][y]][z] == rows[x][rows[y][z]] for x in places for y in places for z in places])


def neutral(rows):
    """The thing that changes no other one from either side, or None."""
    places = range(len(rows))
    for e in places:
        if all([rows[e][x] == x and rows[x][e] == x for x in places]):
            return e
    return None


def spreads(plus, times):
    """Whether products spread over sums on both sides."""
    places = range(len(plus))
    left = [
        times[x][plus[y][z]] == plus[times[x][y]][times[x][z]] for x in places for y in places for z in places
    ]
    right = [
        times[plus[x][y]][z] == plus[times[x][z]][times[y][z]] for x in places for y in places for z in places
    ]
    return all(left) and all(right)


def is_sum(plus):
    """Whether a table is one of sums: associative and commutative, with a zero and negatives."""
    zero = neutral(plus)
    if zero is None or not is_commutative(plus) or not is_associative(plus):
        return False
    return all([zero in row for row in plus])


def check_rules(plus, times):
    """Raises InvalidTable with the first rule that two values break."""
    if not has_form(plus, times):
        raise InvalidTable("form")
    if not is_sum(plus):
        raise InvalidTable("plus")
    if not is_associative(times):
        raise InvalidTable("times")
    one = neutral(times)
    if one is None or one == neutral(plus):
        raise InvalidTable("one")
    if not spreads(plus, times):
        raise InvalidTable("spread")


class Table(Ring):
    """A ring with 2 to 16 things, the integers from 0 on, by the tables of their sums and products."""

    def __init__(self, plus, times):
        check_rules(plus, times)
        self._sums = tuple([tuple(row) for row in plus])
        self._products = tuple([tuple(row) for row in times])
        self._zero_place = neutral(plus)
        self._one_place = neutral(times)
        self._orders = [self._order(x) for x in range(len(plus))]
        super().__init__(("table", self._sums, self._products), self._numbers(), ())

    def rows(self):
        """The pair of the two tables, as new lists of lists."""
        return ([list(row) for row in self._sums], [list(row) for row in self._products])

    def text(self):
        """The word and the number of things; read_ring does not read it."""
        return f"table({self.size()})"

    def size(self):
        """The number of things."""
        return len(self._sums)

    def is_thing(self, value):
        """Whether any value is an integer below the size."""
        return is_between(value, 0, self.size() - 1)

    def _order(self, x):
        # The least h from 1 on such that h times x is zero.
        h = 1
        total = x
        while total != self._zero_place:
            total = self._sums[total][x]
            h += 1
        return h

    def _numbers(self):
        places = range(len(self._sums))
        products = self._products
        swaps = [self._difference_order(products[x][y], products[y][x]) for x in places for y in places]
        squares = [self._difference_order(products[x][x], x) for x in places]
        return (self._orders[self._one_place], multiple(*swaps), multiple(*squares))

    def _difference_order(self, x, y):
        return self._orders[self._plus(x, self._times(-1, y))]

    def _plus(self, x, y):
        return self._sums[x][y]

    def _product(self, x, y):
        return self._products[x][y]

    def _times(self, k, x):
        total = self._zero_place
        for _ in range(k % self._orders[x]):
            total = self._sums[total][x]
        return total

    def _share(self, p, q):
        return self._times(p * inverse_modulo(q, self._orders[self._one_place]), self._one_place)

    def _listing(self):
        return list(range(len(self._sums)))

    def _square_samples(self):
        return self._listing()

    def _swap_samples(self):
        return [(x, y) for x in self._listing() for y in self._listing()]


def table_of(ring):
    """The Table of a ring with at most 16 things, numbered in ascending order."""
    size = ring.size()
    if size is None or size > MOST_TABLE:
        raise TooMany(MOST_TABLE)
    ordered = list(ring.things())
    return Table(
        [[ordered.index(ring.plus(x, y)) for y in ordered] for x in ordered],
        [[ordered.index(ring.product(x, y)) for y in ordered] for x in ordered],
    )
