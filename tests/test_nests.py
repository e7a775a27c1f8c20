"""Nested schemes: the schemes and tables themselves, where they are right, and what they cost."""

import unittest
from itertools import product
from math import gcd, prod
from random import Random

from numbertypes import nests
from numbertypes.errors import InvalidNumber, InvalidTable, NoUnit, TooGreat, TooMany, WrongCount
from numbertypes.nests import cost, depth_ones, nested, nested_table, row_ones
from numbertypes.rings import Rests
from numbertypes.schemes import Scheme
from samples import ANY_VALUES, fails, same
from test_schemes import adds_by_hand, drawn_scheme, near_table, sample

HUGE = 10**30
ONE = [([1], [1], [1])]


def single(*numbers):
    """A scheme with one input on each side and one result, whose table is the product of the numbers."""
    return Scheme((1, 1, 1), [([prod(numbers)], [1], [1])])


def dense_scheme(random, great):
    """A scheme with few zeros."""
    sizes = tuple(random.randint(1, 2) for _ in range(3))
    products = [tuple([random.randint(-great, great) for _ in range(size)] for size in sizes)
                for _ in range(random.randint(1, 3))]
    return Scheme(sizes, products)


def with_unit(random, table, modulus):
    """A wished table like this one, often up to a factor modulo a number, that often has an entry 1 or -1."""
    entries = [entry for face in table for row in face for entry in row if gcd(entry, modulus) == 1]
    if entries and random.random() < 0.8:
        factor = pow(random.choice(entries), -1, modulus)
        return [[[1 if entry * factor % modulus == 1 else entry * factor % modulus + modulus * random.randint(-1, 1)
                  for entry in row] for row in face] for face in table]
    wished = near_table(random, table)
    if random.random() < 0.7:
        row = random.choice(random.choice(wished))
        row[random.randrange(len(row))] = random.choice([1, -1])
    return wished


def unit_by_hand(scheme, table):
    """The pair (s, g) of [24], None without an entry 1 or -1."""
    made = scheme.table()
    places = list(product(*[range(size) for size in scheme.sizes]))
    for i, j, k in places:
        if abs(table[i][j][k]) == 1:
            s = made[i][j][k] * table[i][j][k]
            return s, gcd(*[made[a][b][c] - s * table[a][b][c] for a, b, c in places])
    return None


class NestedTest(unittest.TestCase):
    def test_drawn_schemes(self):
        random = Random(1)
        for _ in range(150):
            schemes = [drawn_scheme(random, 3, 4, random.choice([2, HUGE])) for _ in range(random.randint(1, 3))]
            sizes = tuple(prod(scheme.sizes[role] for scheme in schemes) for role in range(3))
            scheme = nested(*schemes)
            self.assertIs(type(scheme), Scheme)
            self.assertEqual(scheme.sizes, sizes)
            self.assertEqual(len(scheme), prod(len(one) for one in schemes))
            expected = []
            for chosen in product(*[one.products for one in schemes]):
                lists = []
                for role in range(3):
                    lists.append([prod(entries) for entries in product(*[triple[role] for triple in chosen])])
                expected.append(tuple(lists))
            self.assertEqual(scheme, Scheme(sizes, expected))
            self.assertTrue(same(nested_table(*[one.table() for one in schemes]), scheme.table()))

    def test_by_hand(self):
        one = Scheme((1, 2, 1), [([2], [1, -1], [3])])
        other = Scheme((2, 1, 1), [([1, 5], [7], [1]), ([0, 1], [1], [1])])
        self.assertEqual(nested(one, other).products,
                         (((2, 10), (7, -7), (3,)), ((0, 2), (1, -1), (3,))))
        self.assertEqual(nested(other, one).products, (((2, 10), (7, -7), (3,)), ((0, 2), (1, -1), (3,))))
        self.assertEqual(nested_table([[[1], [2]]], [[[3]], [[5]]]), [[[3], [6]], [[5], [10]]])
        self.assertEqual(nested_table([[[1, 2]]], [[[3, 5]]]), [[[3, 5, 6, 10]]])
        self.assertEqual(nested_table((((1, 2),),), (((3, 5),),)), [[[3, 5, 6, 10]]])

    def test_blocks(self):
        scheme, ring = sample(), Rests(1000)
        lefts, rights = [3, 5, 7, 11], [13, 17, 19, 23]
        found = nested(scheme, scheme).run(ring, lefts, rights)
        expected = [0] * 9
        for (i, x), (j, y) in product(enumerate(lefts), enumerate(rights)):
            expected[3 * (i // 2 + j // 2) + i % 2 + j % 2] += x * y
        self.assertEqual(found, [entry % 1000 for entry in expected])

    def test_one_is_a_copy(self):
        table = [[[1, 2]], [[3, 4]]]
        made = nested_table(table)
        self.assertEqual(made, table)
        made[0][0].append(5)
        made[1].append([])
        made.append([])
        self.assertEqual(table, [[[1, 2]], [[3, 4]]])
        self.assertEqual(nested(sample()), sample())

    def test_errors(self):
        fails(self, WrongCount, {"given": 0}, nested)
        wide = [Scheme(sizes, ONE) if sizes == (1, 1, 1) else Scheme(sizes, []) for sizes in
                ((6, 1, 1), (1, 6, 1), (1, 1, 6), (7, 1, 1), (1, 7, 1), (1, 1, 7))]
        for role in range(3):
            self.assertEqual(nested(wide[role], wide[role]).sizes[role], 36)
            fails(self, TooMany, {"most": 36}, nested, wide[role], wide[role + 3])
        many = Scheme((1, 1, 1), ONE * 20)
        self.assertEqual(len(nested(many, many)), 400)
        self.assertEqual(len(nested(*[single(1)] * 300)), 1)
        fails(self, TooMany, {"most": 400}, nested, many, Scheme((1, 1, 1), ONE * 21))
        fails(self, TooMany, {"most": 36}, nested, many, many, Scheme((7, 1, 1), [([1] * 7, [1], [1])] * 400), wide[0])
        full, empty = Scheme((1, 1, 1), ONE * 400), Scheme((1, 1, 1), [])
        for row in ((full, full, full, empty), (empty, full, full, full), (full, empty, full, full)):
            self.assertEqual(nested(*row), empty)


class RowTest(unittest.TestCase):
    def test_against_the_nested_scheme(self):
        random = Random(2)
        seen = set()
        for _ in range(400):
            layers = []
            modulus = random.choice([2, 3, 4, 6, 7, 24, 60])
            for _ in range(random.randint(1, 3)):
                scheme = dense_scheme(random, 3)
                layers.append((scheme, with_unit(random, scheme.table(), modulus)))
            found = [unit_by_hand(*layer) for layer in layers]
            if None in found:
                fails(self, NoUnit, {"at": found.index(None)}, row_ones, *layers)
                continue
            number = row_ones(*layers)
            self.assertEqual(number, gcd(prod(s for s, _ in found) - 1, *[g for _, g in found]))
            whole = nested(*[scheme for scheme, _ in layers])
            self.assertEqual(number, whole.right_ones(nested_table(*[table for _, table in layers])), layers)
            seen.add((len(layers), number))
        self.assertGreater(len(seen), 15)

    def test_by_hand(self):
        for row, number in (
            ([(1, 1)], 0), ([(-1, 1)], 2), ([(-1, -1)], 0), ([(5, 1)], 4), ([(0, 1)], 1), ([(5, 1), (3, -1)], 16),
            ([(-1, 1), (-1, 1)], 0), ([(-1, 1), (-1, 1), (-1, 1)], 2), ([(2, 1), (0, 1)], 1), ([(3, 1)] * 5, 242),
            ([(7, 1), (7, -1)], 50),
        ):
            layers = [(single(entry), [[[wish]]]) for entry, wish in row]
            self.assertEqual(row_ones(*layers), number, row)
        scheme = Scheme((1, 1, 3), [([1], [1], [6, 3, 12])])
        self.assertEqual(row_ones((scheme, [[[6, 1, 4]]])), 2)
        self.assertEqual(row_ones((scheme, [[[0, 1, 4]]])), 2)
        self.assertEqual(row_ones((scheme, [[[2, 1, 4]]])), 0 + gcd(0, 2))
        self.assertEqual(row_ones((scheme, [[[-1, 1, 4]]])), gcd(3 + 6, 12 + 24, -6 - 1))

    def test_the_first_place_counts(self):
        scheme = Scheme((2, 2, 2), [([1, 2], [1, 3], [1, 5])])
        wished = [[[0, 7], [7, 7]], [[7, 7], [-1, 1]]]
        self.assertEqual(unit_by_hand(scheme, wished)[0], -6)
        self.assertEqual(row_ones((scheme, wished)), scheme.right_ones(wished))
        wished[0][1][1] = 1
        self.assertEqual(unit_by_hand(scheme, wished)[0], 15)
        self.assertEqual(row_ones((scheme, wished)), scheme.right_ones(wished))

    def test_right_rows(self):
        scheme = sample()
        layer = (scheme, scheme.table())
        self.assertEqual(row_ones(layer, layer, layer), 0)
        wrong = (scheme, [[[1, 0, 0], [0, 1, 0]], [[0, 1, 0], [0, 6, 1]]])
        self.assertEqual(row_ones(layer, wrong, layer), 6)

    def test_errors(self):
        fails(self, WrongCount, {"given": 0}, row_ones)
        unitless = (single(2), [[[2]]])
        fails(self, NoUnit, {"at": 0}, row_ones, unitless)
        fails(self, NoUnit, {"at": 2}, row_ones, (single(2), [[[1]]]), (single(2), [[[-1]]]), unitless, unitless)
        for value in ANY_VALUES + [[[[True]]], [[[1, 1]]], [[[1]], [[1]]]]:
            fails(self, InvalidTable, {"rule": "form"}, row_ones, unitless, (single(2), value))
            fails(self, InvalidTable, {"rule": "form"}, depth_ones, single(2), value, "deep")
        fails(self, NoUnit, {"at": 0}, depth_ones, single(2), [[[0]]], "deep")


class DepthTest(unittest.TestCase):
    def test_against_the_nested_scheme(self):
        random = Random(3)
        count = 0
        for _ in range(200):
            scheme = dense_scheme(random, 2)
            table = with_unit(random, scheme.table(), random.choice([2, 3, 5, 12]))
            if unit_by_hand(scheme, table) is None:
                fails(self, NoUnit, {"at": 0}, depth_ones, scheme, table, 1)
                continue
            count += 1
            for depth in (1, 2, 3):
                number = depth_ones(scheme, table, depth)
                self.assertEqual(number, nested(*[scheme] * depth).right_ones(nested_table(*[table] * depth)))
            for depth in (4, 9, 30):
                self.assertEqual(depth_ones(scheme, table, depth), row_ones(*[(scheme, table)] * depth))
        self.assertGreater(count, 100)

    def test_great_depths(self):
        turned = single(-1)
        for depth in (HUGE, HUGE - 1, 201, 200, 1):
            self.assertEqual(depth_ones(turned, [[[1]]], depth), 2 if depth % 2 else 0)
            self.assertEqual(depth_ones(single(1), [[[1]]], depth), 0)
            self.assertEqual(depth_ones(single(0), [[[-1]]], depth), 1)
        scheme = Scheme((1, 1, 2), [([1], [1], [3, 5])])
        for gap in (7, 10**9 + 7, 2**61 - 1, 6 * 5**20):
            wished = [[[1, 0]]]
            scheme = Scheme((1, 1, 2), [([1], [1], [3, gap])])
            for depth in (1, 2, 6, 10**9 + 6, 4 * 5**19, HUGE, HUGE - 7):
                number = depth_ones(scheme, wished, depth)
                self.assertEqual(number, gcd(gap, pow(3, depth, gap) - 1), (gap, depth))
        self.assertEqual(depth_ones(depth=HUGE, scheme=single(1), table=[[[-1]]]), 0)

    def test_depths_without_a_gap(self):
        for base in (2, -2, 3, HUGE):
            for depth in (1, 2, 60, 199, 200):
                self.assertEqual(depth_ones(single(base), [[[1]]], depth), abs(base**depth - 1))
            for depth in (201, HUGE):
                fails(self, TooGreat, {"most": 200}, depth_ones, single(base), [[[1]]], depth)

    def test_wrong_depths(self):
        for value in ANY_VALUES + [HUGE + 1, -HUGE, 61, 60, -1]:
            if type(value) is not int or not 1 <= value <= HUGE:
                fails(self, InvalidNumber, {"given": value}, depth_ones, single(2), [[[1]]], value)
            if type(value) is not int or not 0 <= value <= 60:
                fails(self, InvalidNumber, {"given": value}, cost, single(2), value)


class CostTest(unittest.TestCase):
    def test_against_the_nested_scheme(self):
        random = Random(4)
        for _ in range(100):
            scheme = drawn_scheme(random, 3, 3)
            self.assertEqual(cost(scheme, 0), (1, 0))
            self.assertEqual(cost(scheme, 1), (len(scheme), scheme.adds))
            for depth in (2, 3):
                self.assertEqual(cost(scheme, depth)[0], len(nested(*[scheme] * depth)))

    def test_by_the_words(self):
        random = Random(5)
        for _ in range(60):
            scheme = drawn_scheme(random, random.choice([2, 36]), random.choice([3, 40]))
            sums, sizes, r = adds_by_hand(scheme), scheme.sizes, len(scheme)
            adds = 0
            for n in range(1, 61):
                adds = sum(part * size ** (n - 1) for part, size in zip(sums, sizes)) + r * adds
                self.assertEqual(cost(scheme, n), (r**n, adds))
            self.assertEqual(cost(depth=60, scheme=scheme), (r**60, adds))

    def test_by_hand(self):
        self.assertEqual(cost(sample(), 2), (9, 22))
        self.assertEqual(cost(Scheme((2, 2, 2), []), 0), (1, 0))
        self.assertEqual(cost(Scheme((2, 2, 2), []), 60), (0, 0))

    def test_counted_sums(self):
        # The sums of a nested scheme when each product is computed by the next one: blocks are summed entry by entry.
        scheme = sample()
        left, right, result = adds_by_hand(scheme)
        self.assertEqual(cost(scheme, 3)[1], (4 * left + 4 * right + 9 * result) + 3 * cost(scheme, 2)[1])


class NamesTest(unittest.TestCase):
    def test_functions_stand_in_the_module(self):
        for name in ("nested", "nested_table", "row_ones", "depth_ones", "cost"):
            self.assertEqual(getattr(nests, name).__module__, "numbertypes.nests")


if __name__ == "__main__":
    unittest.main()
