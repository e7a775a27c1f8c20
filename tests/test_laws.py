"""The laws of [3] in all kinds of rings, and what all methods have in common."""

import unittest

from numbertypes.errors import InvalidNumber, InvalidThing, NoInverse, TooMany
from numbertypes.integers import divides
from samples import ANY_VALUES, NO_INTEGERS, all_samples, fails, repeated_sum, same, small_rings

SAMPLES = all_samples()


class LawsTest(unittest.TestCase):
    def test_samples_are_things(self):
        for ring, things in SAMPLES:
            for x in things:
                self.assertIs(ring.is_thing(x), True, (ring, x))
            self.assertNotEqual(ring.zero(), ring.one())

    def test_sums(self):
        for ring, things in SAMPLES:
            zero = ring.zero()
            for x in things:
                self.assertTrue(same(ring.plus(zero, x), x))
                self.assertTrue(same(ring.plus(x, zero), x))
                self.assertTrue(same(ring.plus(x, ring.negative(x)), zero))
                self.assertTrue(same(ring.minus(x, x), zero))
                for y in things:
                    total = ring.plus(x, y)
                    self.assertIs(ring.is_thing(total), True, ring)
                    self.assertTrue(same(total, ring.plus(y, x)))
                    self.assertTrue(same(ring.minus(x, y), ring.plus(x, ring.negative(y))))
                    for z in things:
                        self.assertTrue(same(ring.plus(total, z), ring.plus(x, ring.plus(y, z))))

    def test_products(self):
        for ring, things in SAMPLES:
            zero, one = ring.zero(), ring.one()
            for x in things:
                self.assertTrue(same(ring.product(one, x), x), ring)
                self.assertTrue(same(ring.product(x, one), x), ring)
                self.assertTrue(same(ring.product(zero, x), zero))
                self.assertTrue(same(ring.product(x, zero), zero))
                for y in things:
                    product = ring.product(x, y)
                    self.assertIs(ring.is_thing(product), True, ring)
                    for z in things:
                        self.assertTrue(same(ring.product(product, z), ring.product(x, ring.product(y, z))), ring)

    def test_products_spread_over_sums(self):
        for ring, things in SAMPLES:
            for x in things:
                for y in things:
                    total = ring.plus(x, y)
                    for z in things:
                        self.assertTrue(
                            same(ring.product(total, z), ring.plus(ring.product(x, z), ring.product(y, z))), ring
                        )
                        self.assertTrue(
                            same(ring.product(z, total), ring.plus(ring.product(z, x), ring.product(z, y))), ring
                        )

    def test_times(self):
        for ring, things in SAMPLES:
            for x in things:
                for k in (0, 1, 2, 3, 7):
                    self.assertTrue(same(ring.times(k, x), repeated_sum(ring, k, x)), ring)
                    self.assertTrue(same(ring.times(-k, x), ring.negative(repeated_sum(ring, k, x))), ring)
                huge = ring.times(10**40, x)
                self.assertTrue(same(huge, ring.times(10**20, ring.times(10**20, x))))
                self.assertTrue(same(ring.times(10**40 + 1, x), ring.plus(huge, x)))
                self.assertTrue(same(ring.product(ring.times(5, ring.one()), x), ring.times(5, x)))

    def test_the_three_numbers_bring_to_zero(self):
        for ring, things in SAMPLES:
            self.assertTrue(divides(ring.swaps, ring.squares) or ring.squares == 0)
            self.assertTrue(divides(ring.squares, ring.ones))
            self.assertTrue(divides(ring.ones, 2 * ring.squares))
            for x in things:
                self.assertEqual(ring.times(ring.ones, x), ring.zero())
                self.assertEqual(ring.times(ring.squares, ring.minus(ring.product(x, x), x)), ring.zero())
                for y in things:
                    swapped = ring.minus(ring.product(x, y), ring.product(y, x))
                    self.assertEqual(ring.times(ring.swaps, swapped), ring.zero())

    def test_shares(self):
        for ring, _ in SAMPLES:
            self.assertTrue(same(ring.share(0), ring.zero()))
            self.assertTrue(same(ring.share(1), ring.one()))
            self.assertTrue(same(ring.share(-5), ring.times(-5, ring.one())))
            for q in range(1, 40):
                if not ring.has_inverse(q):
                    fails(self, NoInverse, {"number": q}, ring.share, 3, q)
                    continue
                for p in (0, 1, -1, 6, 10**40):
                    thing = ring.share(p, q)
                    self.assertIs(ring.is_thing(thing), True)
                    self.assertTrue(same(ring.times(q, thing), ring.times(p, ring.one())), (ring, p, q))

    def test_breakers(self):
        for ring, _ in SAMPLES:
            for k in list(range(-13, 14)) + [36, 720, 10**9, 10**40, ring.ones * 7]:
                x = ring.square_breaker(k)
                self.assertEqual(x is None, divides(ring.squares, k), (ring, k))
                if x is not None:
                    self.assertIs(ring.is_thing(x), True)
                    self.assertNotEqual(ring.times(k, ring.minus(ring.product(x, x), x)), ring.zero())
                pair = ring.swap_breaker(k)
                self.assertEqual(pair is None, divides(ring.swaps, k), (ring, k))
                if pair is not None:
                    self.assertIsInstance(pair, tuple)
                    x, y = pair
                    self.assertIs(ring.is_thing(x) and ring.is_thing(y), True)
                    swapped = ring.minus(ring.product(x, y), ring.product(y, x))
                    self.assertNotEqual(ring.times(k, swapped), ring.zero())

    def test_wrong_things(self):
        for ring, things in SAMPLES:
            good = things[-1]
            for value in ANY_VALUES:
                if ring.is_thing(value):
                    self.assertTrue(same(ring.plus(value, ring.zero()), value))
                    continue
                for call in (ring.plus, ring.minus, ring.product):
                    fails(self, InvalidThing, {"given": value}, call, value, good)
                    fails(self, InvalidThing, {"given": value}, call, good, value)
                    fails(self, InvalidThing, {"given": value}, call, value, "other")
                fails(self, InvalidThing, {"given": value}, ring.negative, value)
                fails(self, InvalidThing, {"given": value}, ring.times, 0, value)

    def test_wrong_denominators(self):
        for ring, _ in SAMPLES:
            for value in NO_INTEGERS + [0, -1, -5, -(10**40)]:
                fails(self, InvalidNumber, {"given": value}, ring.share, 1, value)

    def test_arguments_by_name(self):
        for ring, things in SAMPLES:
            x, y = things[-2], things[-1]
            self.assertEqual(ring.plus(y=y, x=x), ring.plus(x, y))
            self.assertEqual(ring.minus(y=y, x=x), ring.minus(x, y))
            self.assertEqual(ring.product(y=y, x=x), ring.product(x, y))
            self.assertEqual(ring.negative(x=x), ring.negative(x))
            self.assertEqual(ring.times(x=x, k=3), ring.times(3, x))
            self.assertEqual(ring.share(q=1, p=-4), ring.share(-4, 1))
            self.assertEqual(ring.square_breaker(k=1), ring.square_breaker(1))
            self.assertEqual(ring.swap_breaker(k=1), ring.swap_breaker(1))
            self.assertIs(ring.is_thing(value=x), True)
            self.assertEqual(ring.has_inverse(q=5), ring.has_inverse(5))


class SmallRingsTest(unittest.TestCase):
    def test_all_things(self):
        for ring in small_rings():
            things = list(ring.things())
            self.assertEqual(len(things), ring.size())
            self.assertTrue(all(ring.is_thing(x) for x in things))
            self.assertTrue(all(x < y for x, y in zip(things, things[1:])), ring)

    def test_numbers_are_the_least_ones(self):
        for ring in small_rings():
            things = list(ring.things())
            zero = ring.zero()

            def least(differences):
                h = 1
                while any(ring.times(h, difference) != zero for difference in differences):
                    h += 1
                return h

            squares = {ring.minus(ring.product(x, x), x) for x in things}
            swaps = {ring.minus(ring.product(x, y), ring.product(y, x)) for x in things for y in things}
            self.assertEqual(ring.ones, least([ring.one()]), ring)
            self.assertEqual(ring.swaps, least(swaps), ring)
            self.assertEqual(ring.squares, least(squares), ring)

    def test_breakers_among_all_things(self):
        for ring in small_rings():
            things = list(ring.things())
            squares = [ring.minus(ring.product(x, x), x) for x in things]
            for k in range(-1, ring.ones + 2):
                broken = any(ring.times(k, difference) != ring.zero() for difference in squares)
                self.assertEqual(ring.square_breaker(k) is not None, broken, (ring, k))

    def test_inverses_among_all_things(self):
        for ring in small_rings():
            for q in list(range(-4, 16)) + [10**40, 10**40 + 1]:
                found = [i for i in ring.things() if ring.times(q, i) == ring.one()]
                self.assertEqual(ring.has_inverse(q), found != [], (ring, q))
                if found and q > 0:
                    self.assertEqual([ring.share(1, q)], found)


class SizesTest(unittest.TestCase):
    def test_endless_rings(self):
        for ring, _ in SAMPLES:
            size = ring.size()
            if ring.ones == 0:
                self.assertIsNone(size)
            items = ring.things()
            if size is None or size > 5000:
                fails(self, TooMany, {"most": 5000}, next, items)
            else:
                self.assertEqual(len(list(items)), size)


if __name__ == "__main__":
    unittest.main()
