"""The base class of rings, and Whole, Fractions, Rests and Sets."""

import inspect
import unittest

from numbertypes.builds import Duals
from numbertypes.errors import InvalidNumber, InvalidThing, NoInverse, TooMany
from numbertypes.integers import is_int, is_share
from numbertypes.rings import Fractions, Rests, Ring, Sets, Whole
from numbertypes.tables import table_of
from samples import ANY_VALUES, NO_INTEGERS, fails, first_items, repeated_sum, same

HUGE = 10**40


def is_unit(q, primes):
    """Whether an integer is made up of these primes alone."""
    if q == 0:
        return False
    for prime in primes:
        while q % prime == 0:
            q //= prime
    return q in (1, -1)


class RingTest(unittest.TestCase):
    def test_class_values(self):
        self.assertEqual((Ring.MOST_THINGS, Ring.MOST_DEPTH), (5000, 4))
        self.assertEqual((Rests(5).MOST_THINGS, Whole.MOST_DEPTH), (5000, 4))

    def test_all_are_rings(self):
        for ring in (Whole(), Fractions(), Rests(2), Sets(1)):
            self.assertIsInstance(ring, Ring)
            self.assertEqual(ring.depth, 1)

    def test_methods_stand_in_the_class_itself(self):
        for name in ("ones", "swaps", "squares", "depth"):
            self.assertIsInstance(Ring.__dict__[name], property)
        for name in (
            "text", "has_inverse", "size", "is_thing", "zero", "one", "plus", "minus", "product", "negative", "times",
            "share", "square_breaker", "swap_breaker", "things", "__eq__", "__repr__",
        ):
            self.assertTrue(inspect.isfunction(Ring.__dict__[name]), name)
        for kind in (Whole, Fractions, Rests, Sets):
            self.assertTrue(inspect.isfunction(kind.__dict__["__init__"]))

    def test_numbers_are_properties_that_stay(self):
        for ring in (Whole(2), Fractions(), Rests(6), Sets(2)):
            for name in ("ones", "swaps", "squares", "depth"):
                with self.assertRaises(AttributeError):
                    setattr(ring, name, 9)

    def test_equality(self):
        same_ones = [
            (Whole(), Whole(1)), (Whole(12), Whole(6)), (Whole(8), Whole(inverse=2)), (Fractions(), Fractions()),
            (Rests(6), Rests(modulus=6)), (Sets(3), Sets(points=3)), (Whole(1000000), Whole(10)),
        ]
        for one, other in same_ones:
            self.assertIs(one == other, True)
            self.assertIs(one != other, False)
        rings = [Whole(), Whole(2), Whole(3), Whole(6), Fractions(), Rests(2), Rests(4), Rests(8), Sets(1), Sets(2)]
        for i, one in enumerate(rings):
            for j, other in enumerate(rings):
                self.assertIs(one == other, i == j)
                self.assertIs(one != other, i != j)
            for value in ANY_VALUES + [one.text(), repr(one), Ring, Rests]:
                self.assertIs(one == value, False)
                self.assertIs(value == one, False)
                self.assertIs(one != value, True)

    def test_text_and_repr(self):
        for ring, text in (
            (Whole(), "whole(1)"), (Whole(1), "whole(1)"), (Whole(12), "whole(6)"), (Whole(1000000), "whole(10)"),
            (Whole(999983), "whole(999983)"), (Fractions(), "fractions"), (Rests(2), "rests(2)"),
            (Rests(10**9), "rests(1000000000)"), (Sets(1), "sets(1)"), (Sets(10), "sets(10)"),
        ):
            self.assertEqual(ring.text(), text)
            self.assertEqual(repr(ring), "Ring(" + text + ")")


class WholeTest(unittest.TestCase):
    def test_numbers(self):
        for ring in (Whole(), Whole(6), Whole(1000000)):
            self.assertEqual((ring.ones, ring.swaps, ring.squares, ring.depth, ring.size()), (0, 1, 0, 1, None))
            self.assertTrue(same([ring.zero(), ring.one()], [(0, 1), (1, 1)]))

    def test_bounds(self):
        for value in NO_INTEGERS + [0, -1, -6, 1000001, HUGE, -HUGE, 10**5000]:
            fails(self, InvalidNumber, {"given": value}, Whole, value)
        fails(self, InvalidNumber, {"given": 0}, Whole, inverse=0)
        self.assertEqual(Whole(1).text(), "whole(1)")
        self.assertEqual(Whole(inverse=1000000).text(), "whole(10)")

    def test_things(self):
        ring = Whole(12)
        for value in ((0, 1), (1, 1), (-1, 1), (1, 2), (-5, 6), (7, 54), (HUGE, 1), (1, 2**200), (5, 8), (7, 27)):
            self.assertIs(ring.is_thing(value), True, value)
        for value in ((1, 5), (1, 10), (3, 7), (2, 4), (3, 3), (0, 2), (1, 0), (1, -2), [1, 2], (True, 1), 1, (1,)):
            self.assertIs(ring.is_thing(value), False, value)
        for value in ANY_VALUES:
            self.assertIs(ring.is_thing(value), is_share(value) and is_unit(value[1], (2, 3)))
            self.assertIs(Whole().is_thing(value), is_share(value) and value[1] == 1)
        self.assertIs(Whole().is_thing((1, 2)), False)
        self.assertIs(ring.is_thing(value=(1, 2)), True)

    def test_sums_and_products(self):
        ring = Whole(6)
        self.assertTrue(same(ring.plus((1, 2), (1, 3)), (5, 6)))
        self.assertTrue(same(ring.plus((1, 2), (1, 2)), (1, 1)))
        self.assertTrue(same(ring.plus((1, 6), (-1, 6)), (0, 1)))
        self.assertTrue(same(ring.minus((1, 2), (1, 3)), (1, 6)))
        self.assertTrue(same(ring.minus((1, 3), (1, 2)), (-1, 6)))
        self.assertTrue(same(ring.product((3, 2), (-4, 9)), (-2, 3)))
        self.assertTrue(same(ring.product((0, 1), (5, 2)), (0, 1)))
        self.assertTrue(same(ring.negative((5, 2)), (-5, 2)))
        self.assertTrue(same(ring.negative((0, 1)), (0, 1)))
        self.assertTrue(same(ring.times(6, (5, 4)), (15, 2)))
        self.assertTrue(same(ring.times(-2, (1, 2)), (-1, 1)))
        self.assertTrue(same(ring.times(0, (5, 4)), (0, 1)))
        self.assertTrue(same(ring.times(HUGE, (1, 2)), (HUGE // 2, 1)))
        self.assertTrue(same(ring.plus((HUGE, 1), (1, 1)), (HUGE + 1, 1)))

    def test_inverses_and_shares(self):
        for argument, primes in ((1, ()), (2, (2,)), (12, (2, 3)), (10, (2, 5)), (49, (7,))):
            ring = Whole(argument)
            for q in list(range(-60, 61)) + [2**100, -(2**100), 6**50, HUGE, -HUGE, 10**5000]:
                self.assertIs(ring.has_inverse(q), is_unit(q, primes), (argument, q))
        ring = Whole(6)
        self.assertTrue(same(ring.share(3), (3, 1)))
        self.assertTrue(same(ring.share(-3, 4), (-3, 4)))
        self.assertTrue(same(ring.share(10, 4), (5, 2)))
        self.assertTrue(same(ring.share(0, 6), (0, 1)))
        fails(self, NoInverse, {"number": 5}, ring.share, 1, 5)
        fails(self, NoInverse, {"number": 5}, ring.share, 10, 5)
        fails(self, NoInverse, {"number": 2}, Whole().share, 2, 2)
        fails(self, NoInverse, {"number": 10}, ring.share, 0, 10)

    def test_breakers(self):
        for ring in (Whole(), Whole(30)):
            for k in (1, -1, 2, 7, HUGE, -HUGE):
                x = ring.square_breaker(k)
                self.assertTrue(ring.is_thing(x))
                self.assertNotEqual(ring.times(k, ring.minus(ring.product(x, x), x)), (0, 1))
                self.assertIsNone(ring.swap_breaker(k))
            self.assertIsNone(ring.square_breaker(0))
            self.assertIsNone(ring.swap_breaker(0))


class FractionsTest(unittest.TestCase):
    def test_numbers(self):
        ring = Fractions()
        self.assertEqual((ring.ones, ring.swaps, ring.squares, ring.depth, ring.size()), (0, 1, 0, 1, None))
        self.assertTrue(same([ring.zero(), ring.one()], [(0, 1), (1, 1)]))

    def test_things(self):
        for value in ANY_VALUES + [(1, 7), (-22, 7), (HUGE, 7), (7, HUGE), (2, 6), (1, 0)]:
            self.assertIs(Fractions().is_thing(value), is_share(value))

    def test_sums_and_products(self):
        ring = Fractions()
        self.assertTrue(same(ring.plus((1, 6), (1, 10)), (4, 15)))
        self.assertTrue(same(ring.minus((1, 6), (1, 10)), (1, 15)))
        self.assertTrue(same(ring.product((14, 15), (-25, 21)), (-10, 9)))
        self.assertTrue(same(ring.negative((-22, 7)), (22, 7)))
        self.assertTrue(same(ring.times(14, (-3, 7)), (-6, 1)))
        self.assertTrue(same(ring.times(-HUGE, (1, HUGE)), (-1, 1)))

    def test_inverses_and_shares(self):
        ring = Fractions()
        for q in (1, -1, 2, 7, -30, HUGE, 10**5000):
            self.assertIs(ring.has_inverse(q), True)
        self.assertIs(ring.has_inverse(0), False)
        self.assertTrue(same(ring.share(6, 4), (3, 2)))
        self.assertTrue(same(ring.share(-6, HUGE), (-3, HUGE // 2)))
        self.assertTrue(same(ring.share(0, 9), (0, 1)))
        self.assertTrue(same(ring.share(7), (7, 1)))

    def test_breakers(self):
        ring = Fractions()
        for k in (1, -1, 2, HUGE):
            x = ring.square_breaker(k)
            self.assertNotEqual(ring.times(k, ring.minus(ring.product(x, x), x)), (0, 1))
            self.assertIsNone(ring.swap_breaker(k))
        self.assertIsNone(ring.square_breaker(0))
        self.assertIsNone(ring.swap_breaker(0))


class RestsTest(unittest.TestCase):
    def test_numbers(self):
        for modulus, squares in ((2, 1), (3, 3), (4, 2), (6, 3), (9, 9), (12, 6), (10**9, 5 * 10**8), (999983, 999983)):
            ring = Rests(modulus)
            self.assertEqual((ring.ones, ring.swaps, ring.squares, ring.depth), (modulus, 1, squares, 1))
            self.assertEqual(ring.size(), modulus)
            self.assertTrue(same([ring.zero(), ring.one()], [0, 1]))

    def test_bounds(self):
        for value in NO_INTEGERS + [1, 0, -1, -2, 10**9 + 1, HUGE, -HUGE, 10**5000]:
            fails(self, InvalidNumber, {"given": value}, Rests, value)
        fails(self, InvalidNumber, {"given": 1}, Rests, modulus=1)
        self.assertEqual(Rests(2).size(), 2)
        self.assertEqual(Rests(modulus=10**9).size(), 10**9)

    def test_things(self):
        for value in ANY_VALUES + [5, 6, 999999999, 10**9]:
            for modulus in (2, 6, 10**9):
                self.assertIs(Rests(modulus).is_thing(value), is_int(value) and 0 <= value < modulus)
        self.assertTrue(same(list(Rests(2).things()), [0, 1]))
        self.assertTrue(same(list(Rests(12).things()), list(range(12))))
        self.assertEqual(list(Rests(5000).things()), list(range(5000)))

    def test_sums_and_products(self):
        ring = Rests(12)
        self.assertTrue(same(ring.plus(7, 8), 3))
        self.assertTrue(same(ring.plus(5, 7), 0))
        self.assertTrue(same(ring.minus(3, 8), 7))
        self.assertTrue(same(ring.minus(8, 3), 5))
        self.assertTrue(same(ring.product(7, 8), 8))
        self.assertTrue(same(ring.product(3, 4), 0))
        self.assertTrue(same(ring.negative(5), 7))
        self.assertTrue(same(ring.negative(0), 0))
        self.assertTrue(same(ring.times(5, 7), 11))
        self.assertTrue(same(ring.times(-1, 7), 5))
        self.assertTrue(same(ring.times(HUGE + 1, 7), (HUGE + 1) * 7 % 12))
        self.assertTrue(same(Rests(10**9).product(10**9 - 1, 10**9 - 1), 1))

    def test_inverses_and_shares(self):
        for modulus in (2, 3, 4, 6, 12, 35):
            ring = Rests(modulus)
            for q in range(-40, 41):
                inverses = [i for i in range(modulus) if ring.times(q, i) == 1]
                self.assertIs(ring.has_inverse(q), bool(inverses), (modulus, q))
                for p in (0, 1, -1, 2, 17, -HUGE):
                    if q < 1:
                        fails(self, InvalidNumber, {"given": q}, ring.share, p, q)
                    elif inverses:
                        self.assertTrue(same(ring.share(p, q), p * inverses[0] % modulus))
                    else:
                        fails(self, NoInverse, {"number": q}, ring.share, p, q)
        self.assertIs(Rests(7).has_inverse(10**5000), True)
        self.assertIs(Rests(10).has_inverse(10**5000), False)
        self.assertTrue(same(Rests(5).share(-3), 2))
        self.assertTrue(same(Rests(10**9).share(1, 3), 666666667))

    def test_breakers(self):
        for modulus in range(2, 14):
            ring = Rests(modulus)
            for k in list(range(-2 * modulus, 2 * modulus + 1)) + [HUGE, HUGE * modulus]:
                broken = [x for x in range(modulus) if k * (x * x - x) % modulus]
                x = ring.square_breaker(k)
                self.assertTrue(x is None and not broken or x in broken, (modulus, k))
                self.assertIsNone(ring.swap_breaker(k))


class SetsTest(unittest.TestCase):
    def test_numbers(self):
        for points in (1, 2, 10):
            ring = Sets(points)
            self.assertEqual((ring.ones, ring.swaps, ring.squares, ring.depth), (2, 1, 1, 1))
            self.assertEqual(ring.size(), 2**points)
            self.assertTrue(same([ring.zero(), ring.one()], [0, 2**points - 1]))
            self.assertEqual(list(ring.things()), list(range(2**points)))

    def test_bounds(self):
        for value in NO_INTEGERS + [0, -1, 11, HUGE, -HUGE, 10**5000]:
            fails(self, InvalidNumber, {"given": value}, Sets, value)
        fails(self, InvalidNumber, {"given": 11}, Sets, points=11)
        self.assertEqual((Sets(1).size(), Sets(points=10).size()), (2, 1024))

    def test_things(self):
        for value in ANY_VALUES + [7, 8, 1023, 1024]:
            for points in (1, 3, 10):
                self.assertIs(Sets(points).is_thing(value), is_int(value) and 0 <= value < 2**points)

    def test_sums_and_products(self):
        ring = Sets(4)
        for x in range(16):
            self.assertTrue(same(ring.negative(x), x))
            for k in (-3, -2, -1, 0, 1, 2, 3, HUGE, HUGE + 1):
                self.assertTrue(same(ring.times(k, x), x if k % 2 else 0))
            for y in range(16):
                self.assertTrue(same(ring.plus(x, y), x ^ y))
                self.assertTrue(same(ring.minus(x, y), x ^ y))
                self.assertTrue(same(ring.product(x, y), x & y))

    def test_inverses_and_shares(self):
        ring = Sets(3)
        for q in list(range(-9, 10)) + [HUGE, HUGE + 1]:
            self.assertIs(ring.has_inverse(q), q % 2 == 1)
        self.assertEqual([ring.share(p, 3) for p in (-2, -1, 0, 1, 2, 3)], [0, 7, 0, 7, 0, 7])
        self.assertTrue(same(ring.share(5), 7))
        fails(self, NoInverse, {"number": 6}, ring.share, 1, 6)
        fails(self, InvalidNumber, {"given": -1}, ring.share, 1, -1)

    def test_breakers(self):
        for ring in (Sets(1), Sets(5)):
            for k in (0, 1, -1, 2, 7, HUGE):
                self.assertIsNone(ring.square_breaker(k))
                self.assertIsNone(ring.swap_breaker(k))


class AllSimpleTest(unittest.TestCase):
    RINGS = [Whole(), Whole(6), Fractions(), Rests(2), Rests(10**9), Sets(1), Sets(10)]

    def test_wrong_things(self):
        for ring in self.RINGS:
            good = ring.one()
            for value in ANY_VALUES:
                if ring.is_thing(value):
                    continue
                for call in (ring.plus, ring.minus, ring.product):
                    fails(self, InvalidThing, {"given": value}, call, value, good)
                    fails(self, InvalidThing, {"given": value}, call, good, value)
                    fails(self, InvalidThing, {"given": value}, call, value, "other")
                    fails(self, InvalidThing, {"given": value}, call, y="other", x=value)
                fails(self, InvalidThing, {"given": value}, ring.negative, value)
                fails(self, InvalidThing, {"given": value}, ring.times, 3, value)
                fails(self, InvalidThing, {"given": value}, ring.times, 0, value)
        fails(self, InvalidThing, {"given": True}, Rests(5).plus, 1, True)
        fails(self, InvalidThing, {"given": (1, 3)}, Whole(2).plus, (1, 2), (1, 3))

    def test_wrong_denominators(self):
        for ring in self.RINGS:
            for value in NO_INTEGERS + [0, -1, -3, -HUGE]:
                fails(self, InvalidNumber, {"given": value}, ring.share, 1, value)
            fails(self, InvalidNumber, {"given": 0}, ring.share, p=1, q=0)

    def test_endless_or_too_many_things(self):
        for ring in (Whole(), Whole(6), Fractions(), Rests(5001), Rests(10**9)):
            items = ring.things()
            fails(self, TooMany, {"most": 5000}, next, items)
        self.assertEqual(first_items(Rests(5000).things(), 3), [0, 1, 2])
        self.assertTrue(inspect.isgenerator(Rests(5).things()))

    def test_arguments_by_name(self):
        ring = Rests(7)
        self.assertEqual(ring.plus(x=3, y=5), 1)
        self.assertEqual(ring.minus(y=5, x=3), 5)
        self.assertEqual(ring.product(y=4, x=3), 5)
        self.assertEqual(ring.negative(x=3), 4)
        self.assertEqual(ring.times(x=3, k=-1), 4)
        self.assertEqual(ring.share(q=3, p=2), 3)
        self.assertEqual(ring.share(p=9), 2)
        self.assertIs(ring.has_inverse(q=14), False)
        self.assertIs(ring.is_thing(value=6), True)
        self.assertIsNone(ring.square_breaker(k=7))
        self.assertIsNone(ring.swap_breaker(k=1))

    def test_times_is_a_repeated_sum(self):
        for ring, things in ((Rests(9), range(9)), (Sets(2), range(4)), (Whole(2), [(0, 1), (-3, 4), (5, 1)])):
            for x in things:
                for k in range(12):
                    self.assertTrue(same(ring.times(k, x), repeated_sum(ring, k, x)))
                    self.assertTrue(same(ring.times(-k, x), ring.negative(repeated_sum(ring, k, x))))

    def test_equal_calls_give_equal_results(self):
        for ring in self.RINGS + [Duals(Rests(4)), table_of(Rests(4))]:
            self.assertEqual(ring.square_breaker(1), ring.square_breaker(1))
            self.assertEqual(ring.one(), ring.one())
            self.assertEqual(ring.text(), ring.text())


if __name__ == "__main__":
    unittest.main()
