"""Words, Pairs, Quaternions, Swapped and Twists."""

import inspect
import unittest
from itertools import product

from numbertypes.builds import Duals, Matrices, Polynomials, Triangles
from numbertypes.errors import InvalidNumber, InvalidRing, InvalidThing, NotCommuting, TooMany
from numbertypes.integers import divides
from numbertypes.rings import Fractions, Rests, Ring, Sets, Whole
from numbertypes.tables import table_of
from numbertypes.wider import Pairs, Quaternions, Swapped, Twists, Words
from samples import ANY_VALUES, NO_INTEGERS, Sampler, fails, same, whole

HUGE = 10**40
DEEP = Duals(Duals(Duals(Rests(2))))
NO_RINGS = ANY_VALUES + [Rests, Ring, "rests(2)"]

A = ((1, 2), (3, 4))
B = ((0, 1), (2, 3))
AB = ((4, 2), (3, 0))
BA = ((3, 4), (1, 1))
SQUARE = Matrices(2, Rests(5))


class WordsTest(unittest.TestCase):
    def test_products_of_letters(self):
        ring = Words(2, Whole())
        a, b = (((0,), whole(1)),), (((1,), whole(1)),)
        self.assertTrue(same(ring.product(a, b), (((0, 1), whole(1)),)))
        self.assertTrue(same(ring.product(b, a), (((1, 0), whole(1)),)))
        self.assertTrue(same(ring.product(a, a), (((0, 0), whole(1)),)))
        self.assertTrue(same(ring.product(ring.product(a, b), b), (((0, 1, 1), whole(1)),)))
        total, difference = ring.plus(a, b), ring.minus(a, b)
        self.assertTrue(same(total, (((0,), whole(1)), ((1,), whole(1)))))
        self.assertTrue(same(difference, (((0,), whole(1)), ((1,), whole(-1)))))
        expected = (((0, 0), whole(1)), ((0, 1), whole(-1)), ((1, 0), whole(1)), ((1, 1), whole(-1)))
        self.assertTrue(same(ring.product(total, difference), expected))
        self.assertTrue(same([ring.zero(), ring.one()], [(), (((), whole(1)),)]))
        self.assertTrue(same(ring.plus(ring.one(), a), (((), whole(1)), ((0,), whole(1)))))
        self.assertTrue(same(ring.plus(a, ring.one()), (((), whole(1)), ((0,), whole(1)))))
        self.assertTrue(same(ring.minus(a, a), ()))
        self.assertTrue(same(ring.negative(total), (((0,), whole(-1)), ((1,), whole(-1)))))
        self.assertTrue(same(ring.times(7, difference), (((0,), whole(7)), ((1,), whole(-7)))))
        self.assertTrue(same(ring.times(0, total), ()))

    def test_words_ascend(self):
        ring = Words(3, Rests(5))
        x = (((2,), 1), ((2, 0), 3))
        y = (((), 2), ((0, 1), 4), ((2,), 4))
        self.assertTrue(same(ring.plus(x, y), (((), 2), ((0, 1), 4), ((2, 0), 3))))
        self.assertTrue(same(ring.product(x, y), (((2,), 2), ((2, 0), 1), ((2, 0, 0, 1), 2), ((2, 0, 1), 4),
                                                  ((2, 0, 2), 2), ((2, 2), 4))))

    def test_words_of_one_length_come_together(self):
        ring = Words(1, Rests(6))
        x = (((), 1), ((0,), 2))
        y = (((), 1), ((0,), 3))
        self.assertTrue(same(ring.product(x, y), (((), 1), ((0,), 5))))
        self.assertTrue(same(ring.product((((0,), 3),), (((0,), 2),)), ()))
        self.assertTrue(same(ring.times(3, x), (((), 3),)))
        self.assertTrue(same(ring.share(1, 5), (((), 5),)))
        self.assertTrue(same(ring.share(6, 5), ()))

    def test_things_of_the_base_keep_their_order(self):
        for letters in (1, 2, 3):
            ring = Words(letters, SQUARE)
            self.assertEqual(ring.product((((), A),), (((), B),)), (((), AB),))
            self.assertEqual(ring.product((((0,), A),), (((0,), B),)), (((0, 0), AB),))
            self.assertEqual(ring.product((((0,), B),), (((), A),)), (((0,), BA),))

    def test_numbers_and_sizes(self):
        both = Pairs(Rests(9), Triangles(Rests(2)))
        for letters, base, numbers in (
            (1, Rests(6), (6, 1, 6)), (2, Rests(6), (6, 6, 6)), (3, Rests(6), (6, 6, 6)), (1, Sets(2), (2, 1, 2)),
            (2, Sets(2), (2, 2, 2)), (1, Whole(), (0, 1, 0)), (2, Fractions(), (0, 0, 0)), (3, Whole(5), (0, 0, 0)),
            (1, both, (18, 2, 18)), (2, both, (18, 18, 18)), (1, SQUARE, (5, 5, 5)),
        ):
            ring = Words(letters, base)
            self.assertEqual((ring.ones, ring.swaps, ring.squares), numbers)
            self.assertEqual(ring.depth, base.depth + 1)
            self.assertIsNone(ring.size())
            fails(self, TooMany, {"most": 5000}, next, ring.things())

    def test_is_thing(self):
        ring = Words(2, Rests(3))
        for value in (
            (), (((), 1),), (((0,), 2),), (((1,), 1),), (((), 2), ((0,), 1), ((0, 0), 1), ((0, 1), 1), ((1,), 2)),
            (((0,) * 50, 1),),
        ):
            self.assertIs(ring.is_thing(value), True, value)
        for value in (
            (((), 0),), (((), 3),), (((), -1),), (((), True),), (((2,), 1),), (((-1,), 1),), (((False,), 1),),
            (((0,), 1), ((), 1)), (((0,), 1), ((0,), 1)), (((1,), 1), ((0,), 1)), (((1,), 1), ((0, 1), 1)), ((0, 1),),
            ([(), 1],), [((), 1)], (([], 1),), (([0], 1),), ((((0,),), 1),), ((), 1), (((), 1, 1),), (((),),), 1, None,
            "", (("", 1),), (("0", 1),), ((None, 1),), (((), None),), (((0,), 1), 5), ((0, 1), ((), 1)), (((), ()),),
        ):
            self.assertIs(ring.is_thing(value), False, value)
            fails(self, InvalidThing, {"given": value}, ring.product, ring.one(), value)
        self.assertIs(Words(3, Rests(3)).is_thing((((2,), 1),)), True)
        self.assertIs(Words(3, Rests(3)).is_thing((((3,), 1),)), False)
        self.assertIs(Words(1, Rests(3)).is_thing((((1,), 1),)), False)

    def test_errors_in_order(self):
        for value in NO_INTEGERS + [0, 4, -1, HUGE, 10**5000]:
            for base in (Rests(2), 5, None, DEEP):
                fails(self, InvalidNumber, {"given": value}, Words, value, base)
        for value in NO_RINGS:
            fails(self, InvalidRing, {"given": value}, Words, 3, value)
        fails(self, TooMany, {"most": 4}, Words, 1, DEEP)
        fails(self, InvalidNumber, {"given": 4}, Words, base=7, letters=4)
        self.assertEqual(Words(base=Rests(2), letters=2), Words(2, Rests(2)))
        self.assertEqual(Words(1, Duals(Duals(Rests(2)))).depth, 4)


class PairsTest(unittest.TestCase):
    def test_operations(self):
        ring = Pairs(Rests(6), SQUARE)
        self.assertTrue(same(ring.product((5, A), (4, B)), (2, AB)))
        self.assertTrue(same(ring.product((5, B), (4, A)), (2, BA)))
        self.assertTrue(same(ring.plus((5, A), (4, B)), (3, ((1, 3), (0, 2)))))
        self.assertTrue(same(ring.minus((4, A), (5, B)), (5, ((1, 1), (1, 1)))))
        self.assertTrue(same(ring.negative((5, A)), (1, ((4, 3), (2, 1)))))
        self.assertTrue(same(ring.times(3, (5, A)), (3, ((3, 1), (4, 2)))))
        self.assertTrue(same(ring.zero(), (0, ((0, 0), (0, 0)))))
        self.assertTrue(same(ring.one(), (1, ((1, 0), (0, 1)))))
        self.assertTrue(same(Pairs(Rests(5), Fractions()).share(3, 2), (4, (3, 2))))
        self.assertTrue(same(Pairs(Sets(2), Rests(9)).one(), (3, 1)))

    def test_numbers(self):
        for one, other, numbers in (
            (Rests(4), Rests(6), (12, 1, 6)), (Rests(9), Triangles(Rests(2)), (18, 2, 18)),
            (Sets(1), Sets(2), (2, 1, 1)), (Rests(4), Whole(), (0, 1, 0)),
            (Fractions(), Triangles(Rests(4)), (0, 4, 0)), (SQUARE, Rests(5), (5, 5, 5)),
            (Twists(4, Whole(3)), Twists(6, Rests(6)), (0, 12, 0)), (Matrices(2, Whole()), Rests(3), (0, 0, 0)),
            (Triangles(Rests(4)), Triangles(Rests(6)), (12, 12, 12)),
        ):
            for ring in (Pairs(one, other), Pairs(other, one)):
                self.assertEqual((ring.ones, ring.swaps, ring.squares), numbers)
                self.assertEqual(ring.depth, 1 + max(one.depth, other.depth))

    def test_breakers_of_one_side_alone(self):
        left = Pairs(Triangles(Rests(4)), Rests(9))
        right = Pairs(Rests(9), Triangles(Rests(4)))
        for ring in (left, right):
            for k in range(-40, 41):
                self.assertEqual(ring.swap_breaker(k) is None, k % 4 == 0)
                self.assertEqual(ring.square_breaker(k) is None, k % 36 == 0)
        both = Pairs(Triangles(Rests(4)), Triangles(Rests(6)))
        for k in range(-25, 26):
            self.assertEqual(both.swap_breaker(k) is None, k % 12 == 0)

    def test_sizes_and_things(self):
        self.assertEqual(Pairs(Rests(50), Rests(100)).size(), 5000)
        self.assertEqual(list(Pairs(Rests(50), Rests(100)).things()), list(product(range(50), range(100))))
        self.assertEqual(list(Pairs(Sets(1), Duals(Rests(2))).things()),
                         [(x, y) for x in range(2) for y in product(range(2), repeat=2)])
        for ring in (Pairs(Rests(71), Rests(71)), Pairs(Rests(2), Whole()), Pairs(Whole(), Rests(2))):
            fails(self, TooMany, {"most": 5000}, next, ring.things())
        self.assertIsNone(Pairs(Rests(2), Whole()).size())
        self.assertIsNone(Pairs(Fractions(), Rests(2)).size())
        self.assertEqual(Pairs(Rests(10**9), Matrices(2, Rests(10**9))).size(), 10**45)

    def test_inverses(self):
        ring = Pairs(Rests(9), Whole(10))
        for q in range(-50, 51):
            self.assertIs(ring.has_inverse(q), Rests(9).has_inverse(q) and Whole(10).has_inverse(q))
        ring = Pairs(Rests(4), Rests(9))
        for q in range(-50, 51):
            self.assertIs(ring.has_inverse(q), q % 2 != 0 and q % 3 != 0)

    def test_is_thing(self):
        ring = Pairs(Rests(3), Sets(2))
        self.assertIs(ring.is_thing((2, 3)), True)
        for value in ((3, 3), (2, 4), (2,), (2, 3, 0), [2, 3], (True, 1), (1, True), 2, (), "23", (3, 2, 1)):
            self.assertIs(ring.is_thing(value), False, value)
            fails(self, InvalidThing, {"given": value}, ring.times, 0, value)

    def test_errors_in_order(self):
        for value in NO_RINGS:
            fails(self, InvalidRing, {"given": value}, Pairs, value, Rests(2))
            fails(self, InvalidRing, {"given": value}, Pairs, Rests(2), value)
            fails(self, InvalidRing, {"given": value}, Pairs, value, "other")
            fails(self, InvalidRing, {"given": value}, Pairs, DEEP, value)
            fails(self, InvalidRing, {"given": value}, Pairs, other=DEEP, one=value)
        fails(self, TooMany, {"most": 4}, Pairs, DEEP, Rests(2))
        fails(self, TooMany, {"most": 4}, Pairs, Rests(2), DEEP)
        self.assertEqual(Pairs(other=Rests(2), one=Rests(3)), Pairs(Rests(3), Rests(2)))
        self.assertEqual(Pairs(Rests(2), Duals(Duals(Rests(2)))).depth, 4)


class QuaternionsTest(unittest.TestCase):
    def units(self, base):
        return [tuple(base.one() if k == at else base.zero() for k in range(4)) for at in range(4)]

    def test_products_of_the_letters(self):
        for base in (Whole(), Rests(7), Fractions(), Rests(4), Rests(2), Sets(2), Duals(Rests(3))):
            ring = Quaternions(base)
            one, i, j, k = self.units(base)
            minus = ring.negative(one)
            self.assertEqual(ring.one(), one)
            for x in (i, j, k):
                self.assertEqual(ring.product(x, x), minus)
                self.assertEqual(ring.product(one, x), x)
            self.assertEqual(ring.product(ring.product(i, j), k), minus)
            for x, y, z in ((i, j, k), (j, k, i), (k, i, j)):
                self.assertEqual(ring.product(x, y), z)
                self.assertEqual(ring.product(y, x), ring.negative(z))

    def test_operations(self):
        ring = Quaternions(Whole())
        x = tuple(whole(n) for n in (1, 2, 3, 4))
        y = tuple(whole(n) for n in (5, 6, 7, 8))
        self.assertTrue(same(ring.product(x, y), tuple(whole(n) for n in (-60, 12, 30, 24))))
        self.assertTrue(same(ring.product(y, x), tuple(whole(n) for n in (-60, 20, 14, 32))))
        self.assertTrue(same(ring.plus(x, y), tuple(whole(n) for n in (6, 8, 10, 12))))
        self.assertTrue(same(ring.minus(x, y), tuple(whole(-4) for _ in range(4))))
        self.assertTrue(same(ring.negative(x), tuple(whole(n) for n in (-1, -2, -3, -4))))
        self.assertTrue(same(ring.times(3, x), tuple(whole(n) for n in (3, 6, 9, 12))))
        self.assertTrue(same(Quaternions(Rests(7)).product((1, 2, 3, 4), (5, 6, 0, 1)), (3, 5, 2, 3)))
        self.assertTrue(same(Quaternions(Fractions()).share(6, 4), ((3, 2), (0, 1), (0, 1), (0, 1))))
        self.assertTrue(same(Quaternions(Rests(5)).zero(), (0, 0, 0, 0)))

    def test_numbers(self):
        for base, numbers in (
            (Rests(2), (2, 1, 2)), (Rests(3), (3, 3, 3)), (Rests(4), (4, 2, 4)), (Rests(12), (12, 6, 12)),
            (Sets(3), (2, 1, 2)), (Whole(2), (0, 0, 0)), (Fractions(), (0, 0, 0)), (Duals(Rests(6)), (6, 3, 6)),
        ):
            ring = Quaternions(base)
            self.assertEqual((ring.ones, ring.swaps, ring.squares), numbers)
            self.assertEqual(ring.depth, base.depth + 1)

    def test_sizes_and_things(self):
        ring = Quaternions(Rests(8))
        self.assertEqual(ring.size(), 4096)
        self.assertEqual(list(ring.things()), list(product(range(8), repeat=4)))
        fails(self, TooMany, {"most": 5000}, next, Quaternions(Rests(9)).things())
        fails(self, TooMany, {"most": 5000}, next, Quaternions(Whole()).things())
        self.assertIsNone(Quaternions(Whole()).size())

    def test_is_thing(self):
        ring = Quaternions(Rests(3))
        self.assertIs(ring.is_thing((0, 1, 2, 0)), True)
        for value in (
            (0, 1, 2), (0, 1, 2, 0, 0), (0, 1, 2, 3), (-1, 0, 0, 0), [0, 1, 2, 0], (0, 1, 2, True), 0, (), None
        ):
            self.assertIs(ring.is_thing(value), False, value)
            fails(self, InvalidThing, {"given": value}, ring.plus, value, value)

    def test_errors_in_order(self):
        for value in NO_RINGS:
            fails(self, InvalidRing, {"given": value}, Quaternions, value)
        deep = Duals(Duals(Triangles(Rests(2))))
        for base in (DEEP, deep, Polynomials(Quaternions(Duals(Whole())))):
            fails(self, TooMany, {"most": 4}, Quaternions, base)
        for base in (
            Triangles(Rests(2)), SQUARE, Words(2, Rests(2)), Quaternions(Rests(3)), Quaternions(Whole()),
            Twists(2, Rests(2)), Pairs(Rests(2), Triangles(Rests(3))), Matrices(2, Fractions()),
            table_of(Triangles(Rests(2))),
        ):
            fails(self, NotCommuting, {}, Quaternions, base)
            fails(self, NotCommuting, {}, Quaternions, base=base)
        for base in (Quaternions(Rests(2)), Words(1, Whole()), Twists(1, Rests(2)), Sets(3), table_of(Rests(4))):
            self.assertEqual(Quaternions(base=base).depth, base.depth + 1)


class SwappedTest(unittest.TestCase):
    def test_operations(self):
        ring = Swapped(SQUARE)
        self.assertTrue(same(ring.product(A, B), BA))
        self.assertTrue(same(ring.product(B, A), AB))
        self.assertTrue(same(Swapped(ring).product(A, B), AB))
        for call in ("plus", "minus"):
            self.assertEqual(getattr(ring, call)(A, B), getattr(SQUARE, call)(A, B))
        self.assertEqual(ring.negative(A), SQUARE.negative(A))
        self.assertEqual(ring.times(-7, A), SQUARE.times(-7, A))
        self.assertEqual((ring.zero(), ring.one()), (SQUARE.zero(), SQUARE.one()))
        self.assertEqual(ring.share(3, 4), SQUARE.share(3, 4))

    def test_it_is_like_its_base(self):
        sets = Pairs(Sets(2), Twists(2, Rests(4)))
        for base in (Rests(6), Sets(2), Whole(6), Fractions(), SQUARE, sets, Words(1, Sets(1)), table_of(Rests(3))):
            ring = Swapped(base)
            self.assertEqual((ring.ones, ring.swaps, ring.squares), (base.ones, base.swaps, base.squares))
            self.assertEqual((ring.size(), ring.depth), (base.size(), base.depth + 1))
            for q in range(-12, 13):
                self.assertEqual(ring.has_inverse(q), base.has_inverse(q))
            for value in ANY_VALUES + [base.one()]:
                self.assertEqual(ring.is_thing(value), base.is_thing(value))
            if base.size() is not None and base.size() <= 5000:
                self.assertEqual(list(ring.things()), list(base.things()))
            else:
                fails(self, TooMany, {"most": 5000}, next, ring.things())

    def test_errors_in_order(self):
        for value in NO_RINGS:
            fails(self, InvalidRing, {"given": value}, Swapped, value)
        fails(self, TooMany, {"most": 4}, Swapped, DEEP)
        fails(self, InvalidRing, {"given": 5}, Swapped, base=5)
        self.assertEqual(Swapped(base=Duals(Duals(Rests(2)))).depth, 4)


class TwistsTest(unittest.TestCase):
    def test_operations(self):
        ring = Twists(4, Rests(8))
        x, y = (1, 2, 3, 1), (5, 6, 7, 2)
        self.assertTrue(same(ring.product(x, y), (5, 0, 6, 1)))
        self.assertTrue(same(ring.product(y, x), (5, 0, 6, 1)))
        self.assertTrue(same(ring.product((1, 1, 0, 0), (0, 0, 1, 3)), (0, 0, 1, 0)))
        self.assertTrue(same(ring.plus(x, y), (6, 0, 2, 3)))
        self.assertTrue(same(ring.plus((7, 7, 7, 3), (1, 1, 1, 1)), (0, 0, 0, 0)))
        self.assertTrue(same(ring.minus(x, y), (4, 4, 4, 3)))
        self.assertTrue(same(ring.negative(x), (7, 6, 5, 3)))
        self.assertTrue(same(ring.times(3, x), (3, 6, 1, 3)))
        self.assertTrue(same(ring.times(HUGE + 1, (1, 0, 0, 1)), (1, 0, 0, 1)))
        self.assertTrue(same([ring.zero(), ring.one()], [(0, 0, 0, 0), (1, 0, 0, 0)]))
        self.assertTrue(same(ring.share(2, 3), (6, 0, 0, 0)))

    def test_products_of_the_letters(self):
        for part, base in ((4, Rests(8)), (3, Rests(3)), (5, Whole(6)), (1000000, Whole(3)), (7, Whole())):
            ring = Twists(part, base)
            zero, one = base.zero(), base.one()
            x, y, z = (zero, one, zero, 0), (zero, zero, one, 0), (zero, zero, zero, 1)
            for left in (x, y, z):
                for right in (x, y, z):
                    expected = z if (left, right) == (x, y) else ring.zero()
                    self.assertTrue(same(ring.product(left, right), expected), ring)
            self.assertEqual(ring.times(part, z), ring.zero())
            self.assertEqual(ring.times(part - 1, z), (zero, zero, zero, part - 1))

    def test_things_of_the_base_count_modulo_the_part(self):
        ring = Twists(5, Whole(6))
        zero = (0, 1)
        z = (zero, zero, zero, 1)
        for thing, expected in (((1, 2), 3), ((1, 3), 2), ((7, 1), 2), ((-1, 1), 4), ((5, 6), 0), ((-7, 12), 4)):
            self.assertTrue(same(ring.product((thing, zero, zero, 0), z), (zero, zero, zero, expected)))
            self.assertTrue(same(ring.product(z, (thing, zero, zero, 0)), (zero, zero, zero, expected)))
            self.assertTrue(same(ring.product((zero, thing, zero, 0), (zero, zero, (1, 1), 0)),
                                 (zero, zero, zero, expected)))
            self.assertTrue(same(ring.product((zero, (1, 1), zero, 0), (zero, zero, thing, 0)),
                                 (zero, zero, zero, expected)))
        self.assertTrue(same(Twists(2, Rests(4)).product((3, 0, 0, 0), (0, 0, 0, 1)), (0, 0, 0, 1)))
        self.assertTrue(same(Twists(2, Rests(4)).product((2, 0, 0, 0), (0, 0, 0, 1)), (0, 0, 0, 0)))
        self.assertTrue(same(Twists(7, Whole(10)).share(3, 20), ((3, 20), zero, zero, 0)))

    def test_part_one(self):
        ring = Twists(1, Rests(3))
        self.assertEqual(ring.product((0, 1, 0, 0), (0, 0, 1, 0)), (0, 0, 0, 0))
        self.assertEqual(ring.swaps, 1)
        self.assertIsNone(ring.swap_breaker(1))
        self.assertEqual(ring.size(), 27)
        self.assertIs(ring.is_thing((0, 0, 0, 1)), False)
        self.assertEqual(Twists(1, Whole(6)).product(((1, 6), (1, 2), (0, 1), 0), ((6, 1), (0, 1), (1, 3), 0)),
                         ((1, 1), (3, 1), (1, 18), 0))

    def test_numbers(self):
        for part, base, numbers in (
            (4, Rests(8), (8, 4, 8)), (1, Rests(3), (3, 1, 3)), (6, Rests(6), (6, 6, 6)), (2, Rests(2), (2, 2, 2)),
            (5, Whole(6), (0, 5, 0)), (1, Whole(), (0, 1, 0)), (1000000, Whole(), (0, 1000000, 0)),
            (1000000, Rests(10**9), (10**9, 1000000, 10**9)),
        ):
            ring = Twists(part, base)
            self.assertEqual((ring.ones, ring.swaps, ring.squares, ring.depth), numbers + (2,))
            for k in (0, 1, -1, part, -part, 2 * part, part + 1, HUGE, numbers[0]):
                self.assertEqual(ring.swap_breaker(k) is None, divides(part, k))
                self.assertEqual(ring.square_breaker(k) is None, divides(numbers[0], k))

    def test_sizes_and_things(self):
        ring = Twists(2, Rests(4))
        self.assertEqual(ring.size(), 128)
        self.assertEqual(list(ring.things()), list(product(range(4), range(4), range(4), range(2))))
        self.assertEqual(len(list(Twists(8, Rests(8)).things())), 4096)
        self.assertEqual(Twists(3, Rests(12)).size(), 5184)
        self.assertIsNone(Twists(3, Whole()).size())
        for ring in (Twists(3, Rests(12)), Twists(3, Whole())):
            fails(self, TooMany, {"most": 5000}, next, ring.things())

    def test_is_thing(self):
        ring = Twists(2, Rests(4))
        self.assertIs(ring.is_thing((3, 3, 3, 1)), True)
        for value in (
            (3, 3, 3, 2), (3, 3, 3, -1), (4, 0, 0, 0), (0, 4, 0, 0), (0, 0, 4, 0), (0, 0, 0), (0, 0, 0, 0, 0),
            [0, 0, 0, 0], (0, 0, 0, False), (True, 0, 0, 0), (0, 0, 0, None), 0, (), "0000",
        ):
            self.assertIs(ring.is_thing(value), False, value)
            fails(self, InvalidThing, {"given": value}, ring.product, ring.one(), value)
        self.assertIs(Twists(3, Whole(2)).is_thing(((1, 2), (0, 1), (0, 1), 2)), True)
        self.assertIs(Twists(3, Whole(2)).is_thing(((1, 2), (0, 1), (0, 1), (2, 1))), False)
        self.assertIs(Twists(3, Whole(2)).is_thing(((1, 3), (0, 1), (0, 1), 2)), False)

    def test_wrong_bases_go_first(self):
        wrong = [Fractions(), Sets(2), SQUARE, Twists(2, Rests(2)), DEEP, Polynomials(Rests(2)), table_of(Rests(4))]
        for value in NO_RINGS + wrong:
            for part in (1, 2, 0, None, "x", HUGE):
                fails(self, InvalidRing, {"given": value}, Twists, part, value)
        fails(self, InvalidRing, {"given": 5}, Twists, base=5, part=0)

    def test_wrong_parts(self):
        for value in NO_INTEGERS + [0, -1, -2, 1000001, HUGE, 10**5000]:
            for base in (Rests(12), Rests(10**9), Whole(), Whole(6)):
                fails(self, InvalidNumber, {"given": value}, Twists, value, base)
        for value in range(1, 40):
            if 12 % value:
                fails(self, InvalidNumber, {"given": value}, Twists, value, Rests(12))
            else:
                self.assertEqual(Twists(value, Rests(12)).swaps, value)
            if value % 2 == 0 or value % 3 == 0:
                fails(self, InvalidNumber, {"given": value}, Twists, value, Whole(12))
            else:
                self.assertEqual(Twists(value, Whole(12)).swaps, value)
        fails(self, InvalidNumber, {"given": 2000000}, Twists, 2000000, Rests(4000000))
        self.assertEqual(Twists(base=Whole(), part=1000000).text(), "twists(1000000, whole(1))")


class AllWiderTest(unittest.TestCase):
    def test_text_and_repr(self):
        for ring, text in (
            (Words(2, Rests(3)), "words(2, rests(3))"), (Words(1, Fractions()), "words(1, fractions)"),
            (Pairs(Rests(3), Whole(12)), "pairs(rests(3), whole(6))"),
            (Pairs(Pairs(Sets(1), Sets(2)), Fractions()), "pairs(pairs(sets(1), sets(2)), fractions)"),
            (Quaternions(Whole()), "quaternions(whole(1))"), (Swapped(SQUARE), "swapped(matrices(2, rests(5)))"),
            (Twists(4, Rests(8)), "twists(4, rests(8))"), (Twists(5, Whole(12)), "twists(5, whole(6))"),
            (Pairs(table_of(Rests(3)), Swapped(Rests(2))), "pairs(table(3), swapped(rests(2)))"),
        ):
            self.assertEqual(ring.text(), text)
            self.assertEqual(repr(ring), "Ring(" + text + ")")

    def test_equality(self):
        def made():
            return [
                Words(1, Rests(2)), Words(2, Rests(2)), Words(2, Rests(3)), Pairs(Rests(2), Rests(3)),
                Pairs(Rests(3), Rests(2)), Pairs(Rests(2), Rests(2)), Quaternions(Rests(2)), Quaternions(Rests(3)),
                Swapped(Rests(2)), Swapped(Swapped(Rests(2))), Swapped(SQUARE), SQUARE, Rests(2), Twists(2, Rests(4)),
                Twists(4, Rests(4)), Twists(1, Rests(2)), Twists(1, Whole(6)), Twists(1, Whole(2)), Sets(2),
                Polynomials(Rests(2)), table_of(Pairs(Rests(2), Rests(3))),
            ]

        for i, one in enumerate(made()):
            for j, other in enumerate(made()):
                self.assertIs(one == other, i == j, (one, other))
                self.assertIs(one != other, i != j)
            for value in ANY_VALUES + [one.text()]:
                self.assertIs(one == value, False)
        self.assertEqual(Twists(5, Whole(12)), Twists(5, Whole(6)))

    def test_inverses(self):
        for make in (lambda base: Words(1, base), lambda base: Words(3, base), Quaternions, Swapped,
                     lambda base: Pairs(base, base), lambda base: Pairs(base, Fractions())):
            for base in (Rests(10), Whole(6), Fractions(), Sets(2), Pairs(Rests(9), Whole(2)), table_of(Rests(4))):
                for q in list(range(-12, 13)) + [HUGE, HUGE + 1]:
                    self.assertEqual(make(base).has_inverse(q), base.has_inverse(q), (make, base, q))
        for base in (Rests(10), Whole(6), Whole()):
            for q in list(range(-12, 13)) + [HUGE, HUGE + 1]:
                self.assertEqual(Twists(1, base).has_inverse(q), base.has_inverse(q))
        self.assertIs(Twists(5, Whole(6)).has_inverse(5), False)

    def test_all_are_rings(self):
        for ring in (Words(1, Rests(2)), Pairs(Rests(2), Rests(3)), Quaternions(Rests(2)), Swapped(Rests(2)),
                     Twists(2, Rests(2))):
            self.assertIsInstance(ring, Ring)
            self.assertTrue(inspect.isfunction(type(ring).__dict__["__init__"]))
            self.assertEqual(type(ring).__module__, "numbertypes.wider")
            self.assertTrue(inspect.isgenerator(ring.things()))

    def test_products_commute_where_swaps_is_one(self):
        made = Sampler(21, 7)
        small = made.leaf(Rests(6))
        for ring, things in (
            made.words(1, small), made.pairs(small, made.leaf(Whole(2))), made.twists(1, small),
            made.tuples(Quaternions(Rests(2)), made.leaf(Rests(2)), 4), made.swapped(small),
        ):
            self.assertEqual(ring.swaps, 1)
            for x, y in product(things, things):
                self.assertEqual(ring.product(x, y), ring.product(y, x))


if __name__ == "__main__":
    unittest.main()
