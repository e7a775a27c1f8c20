"""Schemes of products: they compute results from left and right inputs."""

from numbertypes.errors import (
    InvalidNumber,
    InvalidOrder,
    InvalidProduct,
    InvalidTable,
    InvalidThing,
    TooMany,
    WrongCount,
)
from numbertypes.integers import common, is_between, is_int
from numbertypes.papers import is_list_of
from numbertypes.rings import check_number
from numbertypes.straight import straight_products

MOST_SIZE = 36
MOST_PRODUCTS = 400


def check_sizes(sizes):
    """Raises InvalidNumber for any value that is no tuple of three sizes."""
    if not isinstance(sizes, tuple) or len(sizes) != 3:
        raise InvalidNumber(sizes)
    for size in sizes:
        check_number(size, 1, MOST_SIZE)


def is_row(value, size):
    """Whether any value is a list of so many integers."""
    return is_list_of(value, size) and all([is_int(entry) for entry in value])


def is_product(value, sizes):
    """Whether any value is a triple of lists of integers of these sizes."""
    if not isinstance(value, tuple) or len(value) != 3:
        return False
    return all([is_row(row, size) for row, size in zip(value, sizes)])


def is_table(value, sizes):
    """Whether any value is a list of lists of lists of integers of these sizes."""
    left, right, result = sizes
    if not is_list_of(value, left) or not all([is_list_of(face, right) for face in value]):
        return False
    return all([is_row(row, result) for face in value for row in face])


def is_order(value):
    """Whether any value is a tuple of 0, 1 and 2, each once."""
    if not isinstance(value, tuple) or not all([is_between(role, 0, 2) for role in value]):
        return False
    return sorted(value) == [0, 1, 2]


def check_table(table, scheme):
    """Raises InvalidTable for any value that is no wished table of a scheme."""
    if not is_table(table, scheme.sizes):
        raise InvalidTable("form")


def entries(table):
    """The list of the entries of a table, by their places."""
    return [entry for face in table for row in face for entry in row]


def row_adds(rows):
    """The sums of two things that are needed to sum all rows."""
    counts = [len([entry for entry in row if entry != 0]) for row in rows]
    return sum([count - 1 for count in counts if count > 0])


def role_adds(scheme):
    """The list of the adds of a scheme in its left inputs, its right inputs and its results."""
    lefts = [triple[0] for triple in scheme.products]
    rights = [triple[1] for triple in scheme.products]
    results = [[triple[2][at] for triple in scheme.products] for at in range(scheme.sizes[2])]
    return [row_adds(lefts), row_adds(rights), row_adds(results)]


def sum_of_things(ring, factors, things):
    """The sum of integers times things of a ring."""
    total = ring.zero()
    for factor, thing in zip(factors, things):
        if factor != 0:
            total = ring._plus(total, ring._times(factor, thing))
    return total


class Scheme:
    """Products of sums of left inputs with sums of right inputs, and results that are sums of these products."""

    def __init__(self, sizes, products):
        check_sizes(sizes)
        if len(products) > MOST_PRODUCTS:
            raise TooMany(MOST_PRODUCTS)
        for at, triple in enumerate(products):
            if not is_product(triple, sizes):
                raise InvalidProduct(at)
        self._sizes = sizes
        self._triples = tuple([tuple([tuple(row) for row in triple]) for triple in products])

    @staticmethod
    def of(program, left):
        """The scheme of a program whose first inputs, as many as left says, are left, and whose others are right."""
        check_number(left, 1, len(program.inputs) - 1)
        sizes = (left, len(program.inputs) - left, len(program.outputs))
        return Scheme(sizes, straight_products(program, left))

    @property
    def sizes(self):
        """The tuple of the numbers of left inputs, right inputs and results."""
        return self._sizes

    @property
    def products(self):
        """The tuple of the products: triples of tuples of integers."""
        return self._triples

    @property
    def adds(self):
        """The number of sums of two things that are needed."""
        return sum(role_adds(self))

    def table(self):
        """The table: at [i][j][k] how many times left i times right j is in result k."""
        left, right, result = self._sizes
        found = [[[0] * result for _ in range(right)] for _ in range(left)]
        for u, v, w in self._triples:
            for i, x in enumerate(u):
                for j, y in enumerate(v):
                    if x != 0 and y != 0:
                        found[i][j] = [entry + x * y * z for entry, z in zip(found[i][j], w)]
        return found

    def turned(self, order):
        """The scheme whose left inputs, right inputs and results have these roles in this one."""
        if not is_order(order):
            raise InvalidOrder(order)
        one, other, last = order
        sizes = (self._sizes[one], self._sizes[other], self._sizes[last])
        return Scheme(sizes, [(triple[one], triple[other], triple[last]) for triple in self._triples])

    def run(self, ring, lefts, rights):
        """The list of the results for the lists of the left and of the right inputs, things of a ring."""
        for given, size in ((lefts, self._sizes[0]), (rights, self._sizes[1])):
            if len(given) != size:
                raise WrongCount(len(given))
        for thing in [*lefts, *rights]:
            if not ring.is_thing(thing):
                raise InvalidThing(thing)
        made = []
        for u, v, _ in self._triples:
            made.append(ring._product(sum_of_things(ring, u, lefts), sum_of_things(ring, v, rights)))
        rows = [[triple[2][k] for triple in self._triples] for k in range(self._sizes[2])]
        return [sum_of_things(ring, row, made) for row in rows]

    def right_ones(self, table):
        """The number that, times one, is zero exactly in the rings in which the scheme is right for a wished table."""
        check_table(table, self)
        differences = [x - y for x, y in zip(entries(self.table()), entries(table))]
        return common(*differences)

    def __len__(self):
        return len(self._triples)

    def __eq__(self, other):
        return isinstance(other, Scheme) and self._sizes == other._sizes and self._triples == other._triples

    def __repr__(self):
        return f"Scheme({self._sizes[0]} x {self._sizes[1]} x {self._sizes[2]}, {len(self._triples)} products)"
