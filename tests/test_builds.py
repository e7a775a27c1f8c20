"""Matrices, Triangles, Polynomials, Duals and Roots."""

import inspect
import unittest
from itertools import product

from numbertypes.builds import Duals, Matrices, Polynomials, Roots, Triangles
from numbertypes.errors import InvalidNumber, InvalidRing, InvalidThing, TooMany
from numbertypes.rings import Fractions, Rests, Ring, Sets, Whole
from numbertypes.tables import table_of
from numbertypes.wider import Pairs, Quaternions, Words
from samples import ANY_VALUES, NO_INTEGERS, Sampler, fails, same, whole

KINDS_OF_ONE_BASE = [Triangles, Polynomials, Duals]
HUGE = 10**40
DEEP = Duals(Duals(Duals(Rests(2))))

A = ((1, 2), (3, 4))
B = ((0, 1), (2, 3))
C = ((1, 1), (0, 1))
D = ((2, 0), (1, 1))
SQUARE = Matrices(2, Rests(5))
AB = ((4, 2), (3, 0))


def whole_rows(*rows):
    return tuple(tuple(whole(entry) for entry in row) for row in rows)


class MatricesTest(unittest.TestCase):
    def test_two_rows(self):
        self.assertTrue(same(SQUARE.product(A, B), AB))
        self.assertTrue(same(SQUARE.product(B, A), ((3, 4), (1, 1))))
        self.assertTrue(same(SQUARE.plus(A, B), ((1, 3), (0, 2))))
        self.assertTrue(same(SQUARE.minus(A, B), ((1, 1), (1, 1))))
        self.assertTrue(same(SQUARE.minus(B, A), ((4, 4), (4, 4))))
        self.assertTrue(same(SQUARE.negative(A), ((4, 3), (2, 1))))
        self.assertTrue(same(SQUARE.times(3, A), ((3, 1), (4, 2))))
        self.assertTrue(same(SQUARE.times(-HUGE - 1, A), ((4, 3), (2, 1))))
        self.assertTrue(same([SQUARE.zero(), SQUARE.one()], [((0, 0), (0, 0)), ((1, 0), (0, 1))]))
        self.assertTrue(same(SQUARE.share(1, 2), ((3, 0), (0, 3))))

    def test_three_rows(self):
        ring = Matrices(3, Whole())
        x = whole_rows((1, 2, 0), (0, 1, 3), (4, 0, 1))
        y = whole_rows((1, 0, 1), (2, 1, 0), (0, 5, 1))
        self.assertTrue(same(ring.product(x, y), whole_rows((5, 2, 1), (2, 16, 3), (4, 5, 5))))
        self.assertTrue(same(ring.product(y, x), whole_rows((5, 2, 1), (2, 5, 3), (4, 5, 16))))
        self.assertTrue(same(ring.plus(x, y), whole_rows((2, 2, 1), (2, 2, 3), (4, 5, 2))))
        self.assertTrue(same(ring.one(), whole_rows((1, 0, 0), (0, 1, 0), (0, 0, 1))))
        self.assertTrue(same(ring.zero(), whole_rows((0, 0, 0), (0, 0, 0), (0, 0, 0))))
        halves = Matrices(3, Fractions()).share(3, 6)
        self.assertEqual(halves, tuple(tuple((1, 2) if i == j else (0, 1) for j in range(3)) for i in range(3)))

    def test_blocks_multiply_like_the_matrix_of_their_entries(self):
        ring = Matrices(2, SQUARE)
        _, things = Sampler(11, 8).matrices(2, Sampler(12, 8).matrices(2, Sampler(13, 8).leaf(Rests(5))))

        def flat(x):
            return [[x[i // 2][j // 2][i % 2][j % 2] for j in range(4)] for i in range(4)]

        for x, y in product(things, things):
            one, other = flat(x), flat(y)
            expected = [[sum(one[i][k] * other[k][j] for k in range(4)) % 5 for j in range(4)] for i in range(4)]
            self.assertEqual(flat(ring.product(x, y)), expected)

    def test_numbers(self):
        for base, ones in ((Rests(6), 6), (Sets(2), 2), (Whole(3), 0), (Fractions(), 0), (SQUARE, 5)):
            for size in (2, 3):
                ring = Matrices(size, base)
                self.assertEqual((ring.ones, ring.swaps, ring.squares), (ones, ones, ones))
                self.assertEqual(ring.depth, base.depth + 1)

    def test_sizes_and_things(self):
        self.assertEqual(Matrices(2, Rests(3)).size(), 81)
        self.assertEqual(Matrices(3, Rests(3)).size(), 19683)
        self.assertEqual(Matrices(3, Matrices(3, Rests(10**9))).size(), 10**729)
        self.assertIsNone(Matrices(2, Whole()).size())
        self.assertIsNone(Matrices(3, Polynomials(Rests(2))).size())
        rows = list(product(range(3), repeat=2))
        self.assertEqual(list(Matrices(2, Rests(3)).things()), sorted(product(rows, repeat=2)))
        rows = list(product(range(2), repeat=3))
        self.assertEqual(list(Matrices(3, Sets(1)).things()), sorted(product(rows, repeat=3)))
        self.assertEqual(len(list(Matrices(2, Rests(8)).things())), 4096)
        for ring in (Matrices(2, Rests(9)), Matrices(3, Rests(3)), Matrices(2, Fractions())):
            fails(self, TooMany, {"most": 5000}, next, ring.things())

    def test_is_thing(self):
        for value in (A, B, ((0, 0), (0, 0)), ((4, 4), (4, 4))):
            self.assertIs(SQUARE.is_thing(value), True)
        for value in (
            ((1, 2), (3, 5)), ((1, 2), (3, -1)), ((1, 2), (3, True)), ((1, 2),), ((1, 2), (3, 4), (0, 0)), (1, 2, 3, 4),
            ((1, 2), (3,)), ((1, 2), (3, 4, 0)), [(1, 2), (3, 4)], ((1, 2), [3, 4]), ([1, 2], (3, 4)), (), 1, (1, 2),
            ((1, 2, 0), (3, 4, 0), (0, 0, 0)), (((1, 2), (3, 4)), ((1, 2), (3, 4))),
        ):
            self.assertIs(SQUARE.is_thing(value), False, value)
            fails(self, InvalidThing, {"given": value}, SQUARE.product, A, value)
            fails(self, InvalidThing, {"given": value}, SQUARE.times, 2, value)
        self.assertIs(Matrices(3, Rests(5)).is_thing(((1, 2, 0), (3, 4, 0), (0, 0, 0))), True)
        self.assertIs(Matrices(3, Rests(5)).is_thing(A), False)

    def test_errors_in_order(self):
        for value in NO_INTEGERS + [1, 4, 0, -2, HUGE, 10**5000]:
            for base in (Rests(2), 5, None, DEEP):
                fails(self, InvalidNumber, {"given": value}, Matrices, value, base)
        for value in ANY_VALUES + [Rests, Ring, "rests(2)"]:
            fails(self, InvalidRing, {"given": value}, Matrices, 2, value)
        fails(self, TooMany, {"most": 4}, Matrices, 3, DEEP)
        fails(self, InvalidNumber, {"given": 5}, Matrices, base=7, size=5)
        self.assertEqual(Matrices(base=Rests(2), size=2), Matrices(2, Rests(2)))
        self.assertEqual(Matrices(3, Duals(Duals(Rests(2)))).depth, 4)

    def test_inverses(self):
        for q in range(-12, 13):
            self.assertEqual(Matrices(2, Rests(6)).has_inverse(q), Rests(6).has_inverse(q))
            self.assertEqual(Matrices(3, Whole(6)).has_inverse(q), Whole(6).has_inverse(q))
            self.assertEqual(Matrices(2, Fractions()).has_inverse(q), q != 0)


class TrianglesTest(unittest.TestCase):
    def test_operations(self):
        ring = Triangles(Rests(7))
        self.assertTrue(same(ring.product((1, 2, 3), (4, 5, 6)), (4, 3, 4)))
        self.assertTrue(same(ring.product((4, 5, 6), (1, 2, 3)), (4, 2, 4)))
        self.assertTrue(same(ring.plus((1, 2, 3), (4, 5, 6)), (5, 0, 2)))
        self.assertTrue(same(ring.minus((1, 2, 3), (4, 5, 6)), (4, 4, 4)))
        self.assertTrue(same(ring.negative((1, 2, 3)), (6, 5, 4)))
        self.assertTrue(same(ring.times(-3, (1, 2, 0)), (4, 1, 0)))
        self.assertTrue(same([ring.zero(), ring.one()], [(0, 0, 0), (1, 0, 1)]))
        self.assertTrue(same(ring.share(1, 3), (5, 0, 5)))

    def test_it_multiplies_like_matrices(self):
        made = Sampler(3, 8)
        leaf = made.leaf(Rests(5))
        for sample in (leaf, made.matrices(2, leaf), made.leaf(Whole(2))):
            base = sample[0]
            ring, things = made.tuples(Triangles(base), sample, 3)
            square = Matrices(2, base)
            for x, y in product(things, things):
                one, other, result = [
                    ((a, b), (base.zero(), c)) for a, b, c in (x, y, ring.product(x, y))
                ]
                self.assertEqual(square.product(one, other), result)

    def test_numbers_sizes_things(self):
        for base, ones in ((Rests(6), 6), (Sets(2), 2), (Whole(3), 0), (SQUARE, 5)):
            ring = Triangles(base)
            self.assertEqual((ring.ones, ring.swaps, ring.squares), (ones, ones, ones))
            self.assertEqual(ring.depth, base.depth + 1)
        self.assertEqual(Triangles(Rests(17)).size(), 4913)
        self.assertEqual(list(Triangles(Rests(17)).things()), list(product(range(17), repeat=3)))
        fails(self, TooMany, {"most": 5000}, next, Triangles(Rests(18)).things())
        self.assertIsNone(Triangles(Fractions()).size())

    def test_is_thing(self):
        ring = Triangles(Rests(3))
        self.assertIs(ring.is_thing((2, 0, 1)), True)
        for value in ((0, 1), (0, 1, 2, 0), (0, 1, 3), (3, 0, 0), (0, -1, 0), [0, 1, 2], (0, True, 1), 0, (), "012"):
            self.assertIs(ring.is_thing(value), False, value)
            fails(self, InvalidThing, {"given": value}, ring.plus, value, value)


class PolynomialsTest(unittest.TestCase):
    def test_operations(self):
        ring = Polynomials(Rests(6))
        self.assertTrue(same(ring.product((1, 2), (1, 3)), (1, 5)))
        self.assertTrue(same(ring.product((3,), (2,)), ()))
        self.assertTrue(same(ring.product((1, 2, 3), (4, 5)), (4, 1, 4, 3)))
        self.assertTrue(same(ring.product((0, 1), (0, 0, 1)), (0, 0, 0, 1)))
        self.assertTrue(same(ring.plus((1, 2, 3), (0, 4, 3)), (1,)))
        self.assertTrue(same(ring.plus((1, 2, 3), (5, 4, 3)), ()))
        self.assertTrue(same(ring.plus((1,), (0, 0, 2)), (1, 0, 2)))
        self.assertTrue(same(ring.plus((0, 0, 2), (1,)), (1, 0, 2)))
        self.assertTrue(same(ring.minus((1, 2, 3), (0, 1, 3)), (1, 1)))
        self.assertTrue(same(ring.minus((1,), (0, 1)), (1, 5)))
        self.assertTrue(same(ring.negative((0, 1, 2)), (0, 5, 4)))
        self.assertTrue(same(ring.times(3, (1, 2)), (3,)))
        self.assertTrue(same(ring.times(2, (0, 3)), ()))
        self.assertTrue(same(ring.times(-1, (1, 2)), (5, 4)))
        self.assertTrue(same([ring.zero(), ring.one()], [(), (1,)]))
        self.assertTrue(same(ring.share(2, 5), (4,)))
        self.assertTrue(same(ring.share(12, 5), ()))

    def test_coefficients_keep_their_order(self):
        ring = Polynomials(SQUARE)
        zero = SQUARE.zero()
        self.assertEqual(ring.product((A,), (B,)), (AB,))
        self.assertEqual(ring.product((zero, A), (zero, B)), (zero, zero, AB))
        self.assertEqual(ring.product((zero, SQUARE.one()), (A,)), (zero, A))
        self.assertEqual(ring.product((A,), (zero, SQUARE.one())), (zero, A))

    def test_numbers_and_sizes(self):
        twisted = Triangles(Rests(4))
        for base, numbers in (
            (Rests(6), (6, 1, 6)), (Sets(2), (2, 1, 2)), (Whole(3), (0, 1, 0)), (twisted, (4, 4, 4)),
            (Pairs(Sets(1), twisted), (4, 4, 4)), (Pairs(Rests(9), Triangles(Rests(2))), (18, 2, 18)),
        ):
            ring = Polynomials(base)
            self.assertEqual((ring.ones, ring.swaps, ring.squares), numbers)
            self.assertEqual(ring.depth, base.depth + 1)
            self.assertIsNone(ring.size())
            fails(self, TooMany, {"most": 5000}, next, ring.things())

    def test_is_thing(self):
        ring = Polynomials(Rests(3))
        for value in ((), (1,), (2, 1), (0, 0, 1), (0,) * 100 + (2,)):
            self.assertIs(ring.is_thing(value), True)
        for value in ((0,), (1, 0), (1, 2, 0), (0, 0), (3,), (1, 3), (-1,), [1], [], (True,), 1, 0, None, ((1,),), "1"):
            self.assertIs(ring.is_thing(value), False, value)
            fails(self, InvalidThing, {"given": value}, ring.negative, value)
        self.assertIs(Polynomials(Whole()).is_thing(((1, 1), (0, 1))), False)
        self.assertIs(Polynomials(Whole()).is_thing(((0, 1), (1, 1))), True)
        self.assertIs(Polynomials(ring).is_thing(((1,), ())), False)
        self.assertIs(Polynomials(ring).is_thing(((), (1,))), True)


class DualsTest(unittest.TestCase):
    def test_operations(self):
        ring = Duals(Rests(7))
        self.assertTrue(same(ring.product((2, 3), (4, 5)), (1, 1)))
        self.assertTrue(same(ring.product((0, 1), (0, 1)), (0, 0)))
        self.assertTrue(same(ring.product((0, 3), (0, 5)), (0, 0)))
        self.assertTrue(same(ring.product((2, 0), (0, 5)), (0, 3)))
        self.assertTrue(same(ring.plus((2, 3), (4, 5)), (6, 1)))
        self.assertTrue(same(ring.minus((2, 3), (4, 5)), (5, 5)))
        self.assertTrue(same(ring.negative((2, 0)), (5, 0)))
        self.assertTrue(same(ring.times(3, (2, 4)), (6, 5)))
        self.assertTrue(same([ring.zero(), ring.one()], [(0, 0), (1, 0)]))
        self.assertTrue(same(ring.share(3, 2), (5, 0)))

    def test_coefficients_keep_their_order(self):
        ring = Duals(SQUARE)
        ad_and_bc = SQUARE.plus(SQUARE.product(A, D), SQUARE.product(B, C))
        self.assertEqual(ring.product((A, B), (C, D)), (SQUARE.product(A, C), ad_and_bc))
        self.assertEqual(ad_and_bc, ((4, 3), (2, 4)))

    def test_numbers_sizes_things(self):
        twisted = Triangles(Rests(4))
        for base, numbers in (
            (Rests(6), (6, 1, 6)), (Sets(2), (2, 1, 2)), (Whole(3), (0, 1, 0)), (twisted, (4, 4, 4)),
            (Pairs(Rests(9), Triangles(Rests(2))), (18, 2, 18)),
        ):
            for ring in (Duals(base), Roots(-3, base)):
                self.assertEqual((ring.ones, ring.swaps, ring.squares), numbers)
                self.assertEqual(ring.depth, base.depth + 1)
        for ring in (Duals(Rests(70)), Roots(99, Rests(70))):
            self.assertEqual(ring.size(), 4900)
            self.assertEqual(list(ring.things()), list(product(range(70), repeat=2)))
        for ring in (Duals(Rests(71)), Roots(0, Rests(71)), Duals(Whole()), Roots(1, Whole(7))):
            fails(self, TooMany, {"most": 5000}, next, ring.things())
        self.assertIsNone(Duals(Whole()).size())
        self.assertIsNone(Roots(5, Whole()).size())

    def test_is_thing(self):
        for ring in (Duals(Rests(3)), Roots(2, Rests(3))):
            self.assertIs(ring.is_thing((2, 0)), True)
            for value in ((0,), (0, 1, 2), (0, 3), (3, 0), [0, 1], (0, False), 0, (), "01", ((0, 1), (0, 1))):
                self.assertIs(ring.is_thing(value), False, value)
                fails(self, InvalidThing, {"given": value}, ring.minus, (0, 0), value)


class RootsTest(unittest.TestCase):
    def test_operations(self):
        ring = Roots(-1, Whole())
        x = (whole(1), whole(2))
        y = (whole(3), whole(4))
        self.assertTrue(same(ring.product(x, y), (whole(-5), whole(10))))
        self.assertTrue(same(ring.plus(x, y), (whole(4), whole(6))))
        self.assertTrue(same(ring.minus(x, y), (whole(-2), whole(-2))))
        self.assertTrue(same(ring.negative(x), (whole(-1), whole(-2))))
        self.assertTrue(same(ring.times(5, x), (whole(5), whole(10))))
        self.assertTrue(same(ring.one(), (whole(1), whole(0))))
        self.assertTrue(same(Roots(5, Rests(7)).product((1, 2), (3, 4)), (1, 3)))
        self.assertTrue(same(Roots(2, Fractions()).share(6, 4), ((3, 2), (0, 1))))

    def test_the_square_of_the_root(self):
        for square in (-99, -98, -1, 0, 1, 2, 50, 98, 99):
            ring = Roots(square, Whole())
            root = (whole(0), whole(1))
            self.assertEqual(ring.product(root, root), (whole(square), whole(0)))
            self.assertEqual(Roots(square, Rests(10)).product((0, 1), (0, 1)), (square % 10, 0))

    def test_coefficients_keep_their_order(self):
        ring = Roots(3, SQUARE)
        expected = (
            SQUARE.plus(SQUARE.product(A, C), SQUARE.times(3, SQUARE.product(B, D))),
            SQUARE.plus(SQUARE.product(A, D), SQUARE.product(B, C)),
        )
        self.assertEqual(ring.product((A, B), (C, D)), expected)

    def test_roots_of_zero_are_no_duals(self):
        self.assertNotEqual(Roots(0, Rests(5)), Duals(Rests(5)))

    def test_errors_in_order(self):
        for value in NO_INTEGERS + [-100, 100, HUGE, -HUGE, 10**5000]:
            for base in (Rests(2), 5, None, DEEP):
                fails(self, InvalidNumber, {"given": value}, Roots, value, base)
        for value in ANY_VALUES + [Rests, Ring, "rests(2)"]:
            fails(self, InvalidRing, {"given": value}, Roots, -99, value)
        fails(self, TooMany, {"most": 4}, Roots, 99, DEEP)
        fails(self, InvalidNumber, {"given": 100}, Roots, base=7, square=100)
        self.assertEqual(Roots(base=Rests(2), square=-99).text(), "roots(-99, rests(2))")


class AllBuildsTest(unittest.TestCase):
    def test_errors_of_one_base(self):
        for kind in KINDS_OF_ONE_BASE:
            for value in ANY_VALUES + [Rests, Ring, "rests(2)"]:
                fails(self, InvalidRing, {"given": value}, kind, value)
            fails(self, InvalidRing, {"given": 7}, kind, base=7)
            fails(self, TooMany, {"most": 4}, kind, DEEP)
            self.assertEqual(kind(Duals(Duals(Rests(2)))).depth, 4)
            self.assertEqual(kind(base=Rests(2)), kind(Rests(2)))

    def test_inverses(self):
        for make in KINDS_OF_ONE_BASE + [lambda base: Roots(4, base), lambda base: Matrices(2, base)]:
            for base in (Rests(10), Whole(6), Fractions(), Sets(2), Pairs(Rests(9), Whole(2)), table_of(Rests(4))):
                for q in list(range(-12, 13)) + [HUGE, HUGE + 1]:
                    self.assertEqual(make(base).has_inverse(q), base.has_inverse(q), (make, base, q))

    def test_text_and_repr(self):
        for ring, text in (
            (Matrices(2, Rests(3)), "matrices(2, rests(3))"), (Matrices(3, Fractions()), "matrices(3, fractions)"),
            (Triangles(Whole(12)), "triangles(whole(6))"), (Polynomials(Sets(4)), "polynomials(sets(4))"),
            (Duals(Duals(Rests(2))), "duals(duals(rests(2)))"), (Roots(-1, Whole()), "roots(-1, whole(1))"),
            (Roots(0, Whole()), "roots(0, whole(1))"), (Roots(5, Words(2, Rests(2))), "roots(5, words(2, rests(2)))"),
            (Matrices(2, Triangles(Polynomials(Whole()))), "matrices(2, triangles(polynomials(whole(1))))"),
            (Duals(table_of(Rests(3))), "duals(table(3))"),
        ):
            self.assertEqual(ring.text(), text)
            self.assertEqual(repr(ring), "Ring(" + text + ")")

    def test_equality(self):
        def made():
            return [
                Matrices(2, Rests(2)), Matrices(3, Rests(2)), Matrices(2, Rests(3)), Triangles(Rests(2)),
                Triangles(Rests(3)), Polynomials(Rests(2)), Duals(Rests(2)), Duals(Duals(Rests(2))),
                Roots(0, Rests(2)), Roots(1, Rests(2)), Roots(-1, Rests(2)), Roots(0, Rests(3)), Rests(2), Sets(1),
                Duals(table_of(Rests(2))), Duals(table_of(Sets(1))), Duals(table_of(Rests(4))),
                Duals(table_of(Sets(2))), Duals(Whole(6)), Duals(Whole(3)), Quaternions(Rests(2)),
            ]

        for i, one in enumerate(made()):
            for j, other in enumerate(made()):
                expected = i == j or {i, j} == {14, 15}
                self.assertIs(one == other, expected, (one, other))
                self.assertIs(one != other, not expected)
            for value in ANY_VALUES + [one.text()]:
                self.assertIs(one == value, False)
        self.assertEqual(Duals(Whole(12)), Duals(Whole(18)))

    def test_all_are_rings(self):
        base = Rests(2)
        for ring in (Matrices(2, base), Triangles(base), Polynomials(base), Duals(base), Roots(1, base)):
            self.assertIsInstance(ring, Ring)
            self.assertTrue(inspect.isfunction(type(ring).__dict__["__init__"]))
            self.assertEqual(type(ring).__module__, "numbertypes.builds")
            self.assertTrue(inspect.isgenerator(ring.things()))


if __name__ == "__main__":
    unittest.main()
