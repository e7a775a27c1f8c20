"""What several tests share: wrong values, rings with some of their things, and small checks."""

from itertools import islice, product
from random import Random

from numbertypes.builds import Duals, Matrices, Polynomials, Roots, Triangles
from numbertypes.rings import Fractions, Rests, Sets, Whole
from numbertypes.tables import Table, table_of
from numbertypes.wider import Pairs, Quaternions, Swapped, Twists, Words

# Values of every sort that a caller may pass where an error is documented.
ANY_VALUES = [
    None, True, False, "", "a", "2", "in", "x" * 4000, -1, 0, 1, 2, 7, 10**40, -(10**40), 10**5000,
    (), [], (1,), [1], (0, 1), [0, 1], (1, 2), (2, 4), (True, 1), (1, True), (1, 0), (1, -2), ("a", 1), (None,),
    (1, 2, 3), ((1, 2), (3, 4)), [[1, 2], [3, 4]], ((0, 1), (0, 1)), ([0, 1], [0, 1]), ((((((5,),),),),),),
    [[[[[[None]]]]]], ("", ()), (((0,), 1),), ((0, 1), (1, 1), (0, 1)), (1, 2, 3, 4), [1, 2, 3, 4],
]

# Values that are no integers at all.
NO_INTEGERS = [value for value in ANY_VALUES if not isinstance(value, int) or isinstance(value, bool)]


def same(one, other):
    """Whether two values are equal and of one kind: 1 and True are not."""
    if type(one) is not type(other):
        return False
    if isinstance(one, (list, tuple)):
        return len(one) == len(other) and all(same(a, b) for a, b in zip(one, other))
    return one == other


def fails(test, error, attributes, call, *given, **named):
    """Checks that a call raises just this error with these attributes."""
    with test.assertRaises(error) as caught:
        call(*given, **named)
    test.assertIs(type(caught.exception), error)
    for name, value in attributes.items():
        test.assertTrue(same(getattr(caught.exception, name), value), name)
    test.assertEqual(caught.exception.code, error.__name__)


def trimmed(parts, zero):
    parts = list(parts)
    while parts and parts[-1] == zero:
        parts.pop()
    return tuple(parts)


class Sampler:
    """Makes rings with some of their things, always the same ones."""

    def __init__(self, seed=7, many=6):
        self.random = Random(seed)
        self.many = many

    def drawn(self, things, count):
        return tuple(self.random.choice(things) for _ in range(count))

    def repeated(self, ring, draw):
        found = [ring.zero(), ring.one()]
        while len(found) < self.many:
            found.append(draw())
        return ring, found

    def leaf(self, ring):
        if ring.size() is None:
            shares = [(0, 1), (1, 1), (-1, 1), (5, 1), (-3, 1), (12, 1), (1, 2), (-7, 6), (4, 9), (10**25, 1)]
            return ring, [pair for pair in shares if ring.is_thing(pair)]
        return self.repeated(ring, lambda: self.random.randrange(ring.size()))

    def matrices(self, size, sample):
        base, things = sample
        return self.repeated(
            Matrices(size, base), lambda: tuple(self.drawn(things, size) for _ in range(size))
        )

    def tuples(self, ring, sample, count):
        return self.repeated(ring, lambda: self.drawn(sample[1], count))

    def polynomials(self, sample):
        base, things = sample
        return self.repeated(
            Polynomials(base), lambda: trimmed(self.drawn(things, self.random.randrange(4)), base.zero())
        )

    def words(self, letters, sample):
        base, things = sample
        known = [word for size in range(3) for word in product(range(letters), repeat=size)]

        def draw():
            chosen = sorted(self.random.sample(known, min(2, len(known))))
            pairs = [(word, self.random.choice(things)) for word in chosen]
            return tuple(pair for pair in pairs if pair[1] != base.zero())

        return self.repeated(Words(letters, base), draw)

    def pairs(self, one, other):
        return self.repeated(
            Pairs(one[0], other[0]), lambda: (self.random.choice(one[1]), self.random.choice(other[1]))
        )

    def swapped(self, sample):
        return Swapped(sample[0]), sample[1]

    def twists(self, part, sample):
        return self.repeated(
            Twists(part, sample[0]), lambda: self.drawn(sample[1], 3) + (self.random.randrange(part),)
        )


def simple_samples(made):
    rings = [Whole(), Whole(6), Whole(10), Fractions(), Rests(2), Rests(7), Rests(12), Rests(10**9), Sets(1), Sets(4)]
    return [made.leaf(ring) for ring in rings]


def built_samples(made):
    small = made.leaf(Rests(4))
    whole = made.leaf(Whole(6))
    square = made.matrices(2, small)
    return [
        square, made.matrices(3, whole), made.matrices(2, square),
        made.tuples(Triangles(small[0]), small, 3), made.tuples(Triangles(square[0]), square, 3),
        made.polynomials(small), made.polynomials(square), made.polynomials(whole),
        made.tuples(Duals(small[0]), small, 2), made.tuples(Duals(square[0]), square, 2),
        made.tuples(Roots(-1, whole[0]), whole, 2), made.tuples(Roots(99, square[0]), square, 2),
        made.tuples(Roots(-99, small[0]), small, 2), made.tuples(Roots(0, whole[0]), whole, 2),
    ]


def wider_samples(made):
    small = made.leaf(Rests(6))
    whole = made.leaf(Whole(6))
    square = made.matrices(2, small)
    sets = made.leaf(Sets(2))
    twist = made.twists(4, made.leaf(Rests(8)))
    return [
        made.words(1, small), made.words(1, square), made.words(2, whole), made.words(3, square),
        made.pairs(small, whole), made.pairs(square, sets), made.pairs(square, twist),
        made.tuples(Quaternions(small[0]), small, 4), made.tuples(Quaternions(whole[0]), whole, 4),
        made.tuples(Quaternions(sets[0]), sets, 4), made.tuples(Quaternions(Rests(2)), made.leaf(Rests(2)), 4),
        made.swapped(square), made.swapped(twist), made.swapped(whole),
        twist, made.twists(1, small), made.twists(6, small), made.twists(35, whole), made.twists(1, whole),
    ]


def deep_samples(made):
    whole = made.leaf(Whole(2))
    small = made.leaf(Rests(2))
    dual = made.tuples(Duals(small[0]), small, 2)
    triangle = made.tuples(Triangles(dual[0]), dual, 3)
    quaternion = made.tuples(Quaternions(whole[0]), whole, 4)
    root = made.tuples(Roots(3, small[0]), small, 2)
    return [
        made.matrices(2, triangle), made.polynomials(made.words(2, quaternion)),
        made.swapped(made.swapped(made.matrices(2, made.leaf(Fractions())))),
        made.pairs(made.tuples(Roots(2, root[0]), root, 2), made.leaf(Sets(3))),
        made.words(2, made.pairs(quaternion, dual)),
        made.polynomials(made.polynomials(made.polynomials(made.leaf(Rests(9))))),
        made.tuples(Quaternions(Quaternions(Quaternions(small[0]))),
                    made.tuples(Quaternions(Quaternions(small[0])),
                                made.tuples(Quaternions(small[0]), small, 4), 4), 4),
    ]


def table_samples(made):
    rings = [Rests(6), Triangles(Rests(2)), Matrices(2, Rests(2)), Sets(3), Quaternions(Rests(2))]
    moved = moved_table(Rests(5), [3, 1, 4, 0, 2])
    tables = [table_of(ring) for ring in rings] + [moved]
    leaves = [made.leaf(table) for table in tables]
    return leaves + [made.matrices(2, leaves[1]), made.swapped(leaves[1]), made.pairs(leaves[0], leaves[1])]


def all_samples():
    """Pairs of a ring and a list of some of its things, with zero and one."""
    made = Sampler()
    return simple_samples(made) + built_samples(made) + wider_samples(made) + deep_samples(made) + table_samples(made)


def moved_table(ring, places):
    """The table of a ring in which the thing with the index n in things() gets the number places[n]."""
    things = list(ring.things())
    size = len(things)
    plus = [[0] * size for _ in range(size)]
    times = [[0] * size for _ in range(size)]
    for i, x in enumerate(things):
        for j, y in enumerate(things):
            plus[places[i]][places[j]] = places[things.index(ring.plus(x, y))]
            times[places[i]][places[j]] = places[things.index(ring.product(x, y))]
    return Table(plus, times)


def small_rings():
    """Rings that are small enough to look at all things."""
    square = Matrices(2, Rests(2))
    moved = moved_table(Rests(6), [4, 2, 0, 5, 1, 3])
    return [
        Rests(2), Rests(3), Rests(4), Rests(9), Rests(12), Sets(1), Sets(3), square, Matrices(2, Rests(3)),
        Triangles(Rests(2)), Triangles(Rests(4)), Triangles(Sets(2)), Duals(Rests(6)), Duals(Sets(2)),
        Duals(Triangles(Rests(2))), Roots(-1, Rests(4)), Roots(1, Rests(2)), Roots(2, Rests(5)), Roots(3, Sets(1)),
        Pairs(Rests(4), Rests(6)), Pairs(Rests(3), Triangles(Rests(2))), Pairs(Sets(2), Rests(3)),
        Quaternions(Rests(2)), Quaternions(Rests(3)), Quaternions(Rests(4)), Quaternions(Sets(1)),
        Swapped(Triangles(Rests(2))), Swapped(Rests(5)), Twists(2, Rests(2)), Twists(1, Rests(3)), Twists(2, Rests(4)),
        Twists(4, Rests(4)), table_of(Triangles(Rests(2))), table_of(square), moved,
        Pairs(table_of(Triangles(Rests(2))), Rests(3)), Duals(moved), Swapped(Swapped(Roots(1, Rests(3)))),
    ]


def repeated_sum(ring, count, thing):
    """The sum of so many things that are equal."""
    total = ring.zero()
    for _ in range(count):
        total = ring.plus(total, thing)
    return total


def order_of(ring, thing):
    """The least count from 1 on whose repeated sum is zero."""
    total = thing
    count = 1
    while total != ring.zero():
        total = ring.plus(total, thing)
        count += 1
    return count


def first_items(items, count):
    return list(islice(items, count))


def whole(number):
    """The share of an integer."""
    return (number, 1)
