"""Schemes that are nested: each product of one is computed by the next one."""

from numbertypes.errors import NoUnit, TooGreat, TooMany, WrongCount
from numbertypes.integers import common
from numbertypes.rings import check_number
from numbertypes.schemes import MOST_PRODUCTS, MOST_SIZE, Scheme, check_table, entries, role_adds

MOST_DEPTH = 10**30
MOST_GROWING_DEPTH = 200
MOST_COST_DEPTH = 60


def product_of(numbers):
    """The product of a list of integers."""
    result = 1
    for number in numbers:
        result = result * number
    return result


def power(base, exponent, modulus):
    """The product of so many times the base, counted modulo the modulus unless this is 0."""
    result = 1
    square = base
    rest = exponent
    while rest > 0:
        if rest % 2 == 1:
            result = result * square if modulus == 0 else result * square % modulus
        square = square * square if modulus == 0 else square * square % modulus
        rest = rest // 2
    return result


def nested_row(one, other):
    """The products of the entries of two rows; the index of the first one counts more."""
    return [x * y for x in one for y in other]


def nested(*schemes):
    """The nested scheme of one or more schemes."""
    if len(schemes) == 0:
        raise WrongCount(0)
    sizes = tuple([product_of([scheme.sizes[role] for scheme in schemes]) for role in range(3)])
    if max(sizes) > MOST_SIZE:
        raise TooMany(MOST_SIZE)
    count = product_of([len(scheme) for scheme in schemes])
    if count > MOST_PRODUCTS:
        raise TooMany(MOST_PRODUCTS)
    # Without any product in the end, there may be very many on the way.
    found = [] if count == 0 else [([1], [1], [1])]
    for scheme in schemes:
        found = [nested_product(one, other) for one in found for other in scheme.products]
    return Scheme(sizes, found)


def nested_product(one, other):
    """The triple of the nested rows of two products."""
    return (nested_row(one[0], other[0]), nested_row(one[1], other[1]), nested_row(one[2], other[2]))


def nested_table(*tables):
    """The nested wished table of one or more tables."""
    if len(tables) == 0:
        raise WrongCount(0)
    found = [[[1]]]
    for table in tables:
        found = [[nested_row(one, other) for one in face for other in side] for face in found for side in table]
    return found


def unit_and_gap(scheme, table):
    """The pair (s, g) of a scheme and a wished table, or None if the table has no entry 1 or -1."""
    made, wished = entries(scheme.table()), entries(table)
    for entry, wish in zip(made, wished):
        if wish in (1, -1):
            unit = entry * wish
            gaps = [x - unit * y for x, y in zip(made, wished)]
            return (unit, common(*gaps))
    return None


def row_ones(*layers):
    """The number that, times one, is zero exactly in the rings in which the nested scheme of pairs is right."""
    if len(layers) == 0:
        raise WrongCount(0)
    for scheme, table in layers:
        check_table(table, scheme)
    found = [unit_and_gap(scheme, table) for scheme, table in layers]
    if None in found:
        raise NoUnit(found.index(None))
    gaps = [gap for _, gap in found]
    return common(product_of([unit for unit, _ in found]) - 1, *gaps)


def depth_ones(scheme, table, depth):
    """The number of row_ones for depth times the same pair."""
    check_table(table, scheme)
    found = unit_and_gap(scheme, table)
    if found is None:
        raise NoUnit(0)
    check_number(depth, 1, MOST_DEPTH)
    unit, gap = found
    if gap == 0 and unit not in (0, 1, -1) and depth > MOST_GROWING_DEPTH:
        raise TooGreat(MOST_GROWING_DEPTH)
    return common(gap, power(unit, depth, gap) - 1)


def cost(scheme, depth):
    """The pair of the numbers of products and of adds of a scheme that is nested in itself depth times."""
    check_number(depth, 0, MOST_COST_DEPTH)
    adds = 0
    blocks = role_adds(scheme)
    for _ in range(depth):
        adds = sum(blocks) + len(scheme) * adds
        blocks = [block * size for block, size in zip(blocks, scheme.sizes)]
    return (power(len(scheme), depth, 0), adds)
