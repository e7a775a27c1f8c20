"""Table and table_of."""

import inspect
import unittest
from itertools import product

from numbertypes.builds import Duals, Matrices, Polynomials, Triangles
from numbertypes.errors import InvalidTable, InvalidThing, NoInverse, TooMany
from numbertypes.integers import is_int
from numbertypes.rings import Fractions, Rests, Ring, Sets, Whole
from numbertypes.tables import Table, table_of
from numbertypes.wider import Pairs, Quaternions, Swapped, Twists, Words
from samples import ANY_VALUES, fails, moved_table, same

PLUS_TWO = [[0, 1], [1, 0]]
TIMES_TWO = [[0, 0], [0, 1]]


def counting(size):
    """The tables of the integers modulo a size."""
    places = range(size)
    return [[(x + y) % size for y in places] for x in places], [[x * y % size for y in places] for x in places]


def tables_by(size, plus, times):
    places = range(size)
    return [[plus(x, y) for y in places] for x in places], [[times(x, y) for y in places] for x in places]


def changed(rows, x, y, value):
    rows = [list(row) for row in rows]
    rows[x][y] = value
    return rows


class FormTest(unittest.TestCase):
    def refused(self, rule, plus, times):
        fails(self, InvalidTable, {"rule": rule}, Table, plus, times)

    def test_any_values(self):
        def is_row(value):
            return isinstance(value, (list, tuple)) and len(value) == 2 and all(is_bit(entry) for entry in value)

        def is_bit(value):
            return same(value, 0) or same(value, 1)

        for value in ANY_VALUES:
            if not isinstance(value, (list, tuple)) or len(value) != 2 or not all(is_row(row) for row in value):
                self.refused("form", value, TIMES_TWO)
                self.refused("form", PLUS_TWO, value)
                self.refused("form", value, value)
            if not is_row(value):
                self.refused("form", [value, [1, 0]], TIMES_TWO)
                self.refused("form", PLUS_TWO, [[0, 0], value])
            if not is_bit(value):
                self.refused("form", [[0, 1], [1, value]], TIMES_TWO)
                self.refused("form", PLUS_TWO, [[0, 0], [value, 1]])

    def test_sizes(self):
        self.refused("form", [], [])
        self.refused("form", [[0]], [[0]])
        self.refused("form", *counting(17))
        self.assertEqual(Table(*counting(2)).size(), 2)
        self.assertEqual(Table(*counting(16)).size(), 16)

    def test_shapes(self):
        plus, times = counting(3)
        self.refused("form", plus[:2], times)
        self.refused("form", plus, times[:2])
        self.refused("form", plus, times + [[0, 0, 0]])
        self.refused("form", plus, [[0, 0], [0, 1]])
        self.refused("form", plus, counting(4)[1])
        self.refused("form", counting(4)[0], times)
        for rows in (plus, times):
            for bad in ([[0, 1]] + rows[1:], rows[:2] + [[0, 1, 2, 0]], rows[:2] + [[]], rows[:2] + [5]):
                self.refused("form", bad, times if rows is plus else plus)
                self.refused("form", times, bad)
        for value in (-1, 3, True, False, "0", None, (0,), 10**40):
            self.refused("form", changed(plus, 2, 2, value), times)
            self.refused("form", plus, changed(times, 0, 0, value))

    def test_form_goes_first(self):
        self.refused("form", [[1, 1], [1, 1]], [[0, 0], [0, 2]])
        self.refused("form", [[0, 0], [0, 2]], [[1, 1], [1, 1]])

    def test_tuples_may_be_passed(self):
        table = Table(((0, 1), (1, 0)), ((0, 0), (0, 1)))
        self.assertEqual(table, Table(PLUS_TWO, TIMES_TWO))
        self.assertEqual(Table([(0, 1), [1, 0]], ([0, 0], (0, 1))), table)
        self.assertTrue(same(table.rows(), (PLUS_TWO, TIMES_TWO)))


class RulesTest(unittest.TestCase):
    def refused(self, rule, plus, times):
        fails(self, InvalidTable, {"rule": rule}, Table, plus, times)

    def test_sums_that_do_not_commute(self):
        # The symmetries of a triangle: associative, with a zero and negatives.
        turns = [(0, 1, 2), (1, 2, 0), (2, 0, 1), (0, 2, 1), (2, 1, 0), (1, 0, 2)]
        plus = [[turns.index(tuple(x[y[k]] for k in range(3))) for y in turns] for x in turns]
        self.refused("plus", plus, counting(6)[1])

    def test_sums_that_are_not_associative(self):
        # Commutative, with the zero 0 and negatives: each thing is its own one.
        plus = [[0, 1, 2], [1, 0, 1], [2, 1, 0]]
        self.refused("plus", plus, counting(3)[1])
        plus = counting(5)[0]
        plus[1][2] = plus[2][1] = 4
        plus[1][3] = plus[3][1] = 3
        self.refused("plus", plus, counting(5)[1])

    def test_sums_without_a_zero(self):
        self.refused("plus", [[0, 0], [0, 0]], TIMES_TWO)
        self.refused("plus", [[0, 0, 0], [0, 0, 0], [0, 0, 0]], counting(3)[1])

    def test_sums_without_negatives(self):
        greatest = tables_by(3, max, min)
        self.refused("plus", *greatest)
        self.refused("plus", [[0, 1], [1, 1]], TIMES_TWO)
        self.refused("plus", *tables_by(4, lambda x, y: x | y, lambda x, y: x & y))

    def test_a_zero_of_one_side_alone(self):
        self.refused("plus", [[0, 1], [0, 1]], TIMES_TWO)
        self.refused("plus", [[0, 0], [1, 1]], TIMES_TWO)

    def test_one_changed_sum(self):
        for size in (2, 3, 4, 5):
            plus, times = counting(size)
            for x in range(size):
                for y in range(size):
                    self.refused("plus", changed(plus, x, y, (x + y + 1) % size), times)

    def test_products_that_are_not_associative(self):
        plus = counting(3)[0]
        times = [[0, 0, 0], [0, 1, 2], [0, 2, 0]]
        # It has a one and is no ring only because 2 * 2 = 0 and 2 + 2 = 1.
        self.refused("spread", plus, times)
        self.refused("times", plus, [[0, 0, 0], [0, 1, 2], [2, 0, 1]])
        self.refused("times", plus, [[0, 2, 1], [1, 0, 2], [2, 1, 0]])
        self.refused("times", PLUS_TWO, [[1, 0], [0, 0]])
        self.refused("times", PLUS_TWO, [[1, 1], [0, 0]])

    def test_products_that_spread_but_are_not_associative(self):
        # Over the base 1, a, b with aa = b and all other products of a and b zero, but ab = a.
        of_letters = {(0, 0): 1, (0, 1): 2, (1, 0): 2, (0, 2): 4, (2, 0): 4, (1, 1): 4, (1, 2): 2}

        def multiplied(x, y):
            result = 0
            for (i, j), letter in of_letters.items():
                if x >> i & 1 and y >> j & 1:
                    result ^= letter
            return result

        self.refused("times", *tables_by(8, lambda x, y: x ^ y, multiplied))

    def test_no_one(self):
        self.refused("one", PLUS_TWO, [[0, 0], [0, 0]])
        self.refused("one", counting(4)[0], [[0] * 4 for _ in range(4)])
        self.refused("one", *tables_by(3, lambda x, y: (x + y) % 3, lambda x, y: 0))
        evens = tables_by(4, lambda x, y: (x + y) % 4, lambda x, y: 2 * x * y % 4)
        self.refused("one", *evens)

    def test_a_one_of_one_side_alone(self):
        self.refused("one", PLUS_TWO, [[0, 1], [0, 1]])
        self.refused("one", PLUS_TWO, [[0, 0], [1, 1]])
        # The pairs of bits with (a, b)(c, d) = (ac, ad): (1, 0) and (1, 1) are ones from the left.
        left = tables_by(4, lambda x, y: x ^ y, lambda x, y: y if x & 1 else 0)
        self.refused("one", *left)
        right = tables_by(4, lambda x, y: x ^ y, lambda x, y: x if y & 1 else 0)
        self.refused("one", *right)

    def test_a_one_that_is_zero(self):
        self.refused("one", PLUS_TWO, [[0, 1], [1, 0]])
        self.refused("one", PLUS_TWO, [[0, 1], [1, 1]])
        self.refused("one", counting(5)[0], counting(5)[0])
        self.refused("one", [[1, 0], [0, 1]], TIMES_TWO)

    def test_products_that_do_not_spread(self):
        self.refused("spread", PLUS_TWO, [[1, 0], [0, 1]])
        self.refused("spread", *tables_by(4, lambda x, y: (x + y) % 4, min))
        # Products of a ring with sums of another one.
        self.refused("spread", counting(4)[0], tables_by(4, max, lambda x, y: x & y)[1])

    def near_ring(self):
        """The maps of the integers modulo 2 to themselves: composed products spread on one side alone."""
        maps = [(a, b) for a in range(2) for b in range(2)]
        plus = [[maps.index(tuple(u ^ v for u, v in zip(x, y))) for y in maps] for x in maps]
        times = [[maps.index((x[y[0]], x[y[1]])) for y in maps] for x in maps]
        return plus, times

    def test_products_that_spread_on_one_side_alone(self):
        plus, times = self.near_ring()
        triples = list(product(range(4), repeat=3))
        after = all(times[plus[x][y]][z] == plus[times[x][z]][times[y][z]] for x, y, z in triples)
        ahead = all(times[z][plus[x][y]] == plus[times[z][x]][times[z][y]] for x, y, z in triples)
        self.assertEqual((after, ahead), (True, False))
        self.refused("spread", plus, times)
        self.refused("spread", plus, [[times[y][x] for y in range(4)] for x in range(4)])

    def test_the_first_rule_counts(self):
        bad_plus = [[0, 0], [0, 0]]
        self.refused("plus", bad_plus, [[1, 0], [0, 0]])
        self.refused("plus", bad_plus, [[0, 0], [0, 0]])
        self.refused("times", PLUS_TWO, [[1, 1], [0, 0]])
        self.refused("one", PLUS_TWO, [[1, 1], [1, 1]])
        self.refused("spread", PLUS_TWO, [[1, 0], [0, 1]])

    def test_one_changed_product(self):
        for size in (2, 3, 4, 6):
            plus, times = counting(size)
            for x in range(size):
                for y in range(size):
                    with self.assertRaises(InvalidTable) as caught:
                        Table(plus, changed(times, x, y, (times[x][y] + 1) % size))
                    self.assertIn(caught.exception.rule, ("times", "one", "spread"))

    def test_arguments_by_name(self):
        self.assertEqual(Table(times=TIMES_TWO, plus=PLUS_TWO), Table(PLUS_TWO, TIMES_TWO))
        fails(self, InvalidTable, {"rule": "form"}, Table, times=TIMES_TWO, plus=5)


class TableTest(unittest.TestCase):
    def test_sums_and_products(self):
        plus, times = counting(12)
        ring = Table(plus, times)
        other = Rests(12)
        self.assertTrue(same([ring.zero(), ring.one()], [0, 1]))
        for x in range(12):
            self.assertTrue(same(ring.negative(x), other.negative(x)))
            for k in (-13, -1, 0, 1, 5, 12, 10**40):
                self.assertTrue(same(ring.times(k, x), other.times(k, x)))
            for y in range(12):
                self.assertTrue(same(ring.plus(x, y), other.plus(x, y)))
                self.assertTrue(same(ring.minus(x, y), other.minus(x, y)))
                self.assertTrue(same(ring.product(x, y), other.product(x, y)))

    def test_zero_and_one_anywhere(self):
        ring = moved_table(Rests(5), [3, 1, 4, 0, 2])
        self.assertTrue(same([ring.zero(), ring.one()], [3, 1]))
        self.assertTrue(same([ring.times(k, 1) for k in range(6)], [3, 1, 4, 0, 2, 3]))
        self.assertTrue(same(ring.share(1, 2), 0))
        self.assertTrue(same(ring.negative(1), 2))
        ring = moved_table(Sets(2), [2, 3, 1, 0])
        self.assertTrue(same([ring.zero(), ring.one()], [2, 0]))
        ring = Table([[1, 0], [0, 1]], [[0, 1], [1, 1]])
        self.assertTrue(same([ring.zero(), ring.one(), ring.ones], [1, 0, 2]))

    def test_products_in_their_order(self):
        base = Triangles(Rests(2))
        things = list(base.things())
        ring = table_of(base)
        x, y = things.index((1, 0, 0)), things.index((0, 1, 0))
        self.assertEqual(ring.product(x, y), things.index((0, 1, 0)))
        self.assertEqual(ring.product(y, x), things.index((0, 0, 0)))
        _, times = ring.rows()
        self.assertEqual((times[x][y], times[y][x]), (ring.product(x, y), ring.product(y, x)))

    def test_numbers(self):
        for base in (
            Rests(2), Rests(12), Rests(16), Sets(1), Sets(4), Triangles(Rests(2)), Matrices(2, Rests(2)),
            Duals(Rests(4)), Pairs(Rests(4), Rests(2)), Quaternions(Rests(2)), Swapped(Triangles(Rests(2))),
            Twists(2, Rests(2)),
            Twists(1, Rests(2)), Pairs(Rests(2), Triangles(Rests(2))), Duals(Sets(2)), Pairs(Rests(5), Rests(3)),
        ):
            ring = table_of(base)
            self.assertEqual((ring.ones, ring.swaps, ring.squares), (base.ones, base.swaps, base.squares), base)
            self.assertEqual((ring.size(), ring.depth), (base.size(), 1))
            for q in range(-9, 20):
                self.assertEqual(ring.has_inverse(q), base.has_inverse(q))
                if q > 0 and not ring.has_inverse(q):
                    fails(self, NoInverse, {"number": q}, ring.share, 1, q)

    def test_things(self):
        ring = Table(*counting(5))
        self.assertTrue(same(list(ring.things()), [0, 1, 2, 3, 4]))
        for value in ANY_VALUES + [4, 5]:
            expected = is_int(value) and 0 <= value < 5
            self.assertIs(ring.is_thing(value), expected)
            if not expected:
                fails(self, InvalidThing, {"given": value}, ring.plus, value, "other")
                fails(self, InvalidThing, {"given": value}, ring.product, 4, value)

    def test_breakers_look_at_all_things(self):
        ring = table_of(Pairs(Rests(2), Triangles(Rests(2))))
        for k in range(-3, 4):
            self.assertEqual(ring.square_breaker(k) is None, k % 2 == 0)
            self.assertEqual(ring.swap_breaker(k) is None, k % 2 == 0)
        ring = moved_table(Rests(12), [5, 0, 1, 2, 3, 4, 11, 10, 9, 8, 7, 6])
        for k in range(-13, 14):
            self.assertEqual(ring.square_breaker(k) is None, k % 6 == 0)
            self.assertIsNone(ring.swap_breaker(k))

    def test_rows_are_new_lists(self):
        plus, times = counting(4)
        ring = Table(plus, times)
        plus[1][1] = 0
        times.pop()
        expected = counting(4)
        self.assertTrue(same(ring.rows(), expected))
        one, other = ring.rows()
        one[0][0] = 3
        one.append(5)
        other[2].clear()
        self.assertTrue(same(ring.rows(), expected))
        self.assertEqual(ring.plus(1, 1), 2)
        self.assertEqual(ring, Table(*expected))

    def test_arguments_are_not_changed(self):
        plus, times = counting(6)
        Table(plus, times)
        self.assertTrue(same((plus, times), counting(6)))

    def test_text_repr_equality(self):
        for size in (2, 3, 16):
            ring = Table(*counting(size))
            self.assertEqual(ring.text(), "table(" + str(size) + ")")
            self.assertEqual(repr(ring), "Ring(table(" + str(size) + "))")
            self.assertIs(ring == Table(*counting(size)), True)
            self.assertIs(ring != Table(*counting(size)), False)
            for value in ANY_VALUES + [counting(size), Rests(size), ring.text(), ring.rows()]:
                self.assertIs(ring == value, False)
                self.assertIs(ring != value, True)
        self.assertNotEqual(Table(*counting(4)), table_of(Sets(2)))
        self.assertNotEqual(moved_table(Rests(5), [3, 1, 4, 0, 2]), Table(*counting(5)))
        self.assertNotEqual(table_of(Triangles(Rests(2))), table_of(Swapped(Triangles(Rests(2)))))
        self.assertNotEqual(table_of(Sets(1)), table_of(Rests(3)))

    def test_it_is_a_ring(self):
        ring = Table(*counting(3))
        self.assertIsInstance(ring, Ring)
        self.assertTrue(inspect.isfunction(Table.__dict__["rows"]))
        self.assertTrue(inspect.isfunction(Table.__dict__["__init__"]))
        self.assertTrue(inspect.isgenerator(ring.things()))
        self.assertEqual(Matrices(2, ring).product(((1, 2), (0, 1)), ((1, 1), (0, 2))), ((1, 2), (0, 2)))


class TableOfTest(unittest.TestCase):
    def test_things_get_their_index(self):
        for base in (Rests(2), Rests(16), Sets(4), Duals(Rests(4)), Matrices(2, Rests(2)), Triangles(Sets(1)),
                     Twists(2, Rests(2)), moved_table(Rests(5), [3, 1, 4, 0, 2])):
            things = list(base.things())
            ring = table_of(base)
            self.assertIsInstance(ring, Table)
            plus, times = ring.rows()
            for i, x in enumerate(things):
                for j, y in enumerate(things):
                    self.assertEqual(things[plus[i][j]], base.plus(x, y))
                    self.assertEqual(things[times[i][j]], base.product(x, y))
            self.assertEqual(things[ring.zero()], base.zero())
            self.assertEqual(things[ring.one()], base.one())
        self.assertEqual(table_of(Rests(7)), Table(*counting(7)))
        table = Table(*counting(7))
        self.assertEqual(table_of(table), table)

    def test_too_many_things(self):
        for base in (
            Rests(17), Rests(10**9), Sets(5), Whole(), Fractions(), Polynomials(Rests(2)), Words(1, Rests(2)),
            Duals(Rests(5)), Pairs(Rests(2), Whole()), Matrices(3, Rests(2)), Pairs(Rests(3), Rests(6)),
        ):
            fails(self, TooMany, {"most": 16}, table_of, base)
        fails(self, TooMany, {"most": 16}, table_of, ring=Whole())
        self.assertEqual(table_of(ring=Rests(16)).size(), 16)


if __name__ == "__main__":
    unittest.main()
