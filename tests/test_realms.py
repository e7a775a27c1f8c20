"""Realms: their normal form, the rings that belong to them, and their order."""

import unittest
from itertools import product
from math import gcd, lcm, prod

from numbertypes.builds import Matrices, Triangles
from numbertypes.errors import EmptyRealm, InvalidNumber, TooGreat
from numbertypes.fits import realm_of
from numbertypes.forms import Form
from numbertypes.programs import Program
from numbertypes.realms import Realm
from numbertypes.rings import Fractions, Rests, Ring, Sets, Whole
from numbertypes.tables import table_of
from numbertypes.wider import Quaternions
from numbertypes.wishes import Wish
from samples import ANY_VALUES, all_samples, fails, same, small_rings
from test_forms import names_of_methods

HUGE = 10**40
RINGS = [ring for ring, _ in all_samples()] + small_rings()


def small_realms():
    """Many realms with small numbers, each once."""
    given = ((1, 2, 3, 6), (0, 1, 2, 3, 4, 6, 12, 18), (0, 1, 2, 3, 4), (0, 1, 2, 3, 6, 9))
    found = {}
    for inverse, ones, swaps, squares in product(*given):
        realm = Realm(inverse=inverse, ones=ones, swaps=swaps, squares=squares)
        found[repr(realm)] = realm
    return list(found.values())


def numbers(realm):
    return (realm.inverse, realm.ones, realm.swaps, realm.squares)


def made(inverse, ones, swaps, squares):
    return Realm(inverse=inverse, ones=ones, swaps=swaps, squares=squares)


def primes_of(number):
    return [q for q in range(2, number + 1) if number % q == 0 and all(q % k for k in range(2, q))]


def normal_by_hand(inverse, ones, swaps, squares):
    """The normal form as [13] tells it, step by step."""
    primes = primes_of(inverse)
    ones = gcd(ones, 2 * squares)
    squares = gcd(squares, ones)
    swaps = gcd(swaps, squares)
    found = []
    for number in (ones, swaps, squares):
        for prime in primes:
            while number != 0 and number % prime == 0:
                number //= prime
        found.append(number)
    return (1 if found[0] != 0 else prod(primes), *found)


class NormalFormTest(unittest.TestCase):
    def test_examples(self):
        for given, expected in (
            ((1, 0, 0, 0), (1, 0, 0, 0)), ((1, 0, 1, 0), (1, 0, 1, 0)), ((1, 1, 0, 0), (1, 1, 1, 1)),
            ((1, 6, 0, 0), (1, 6, 6, 6)), ((1, 0, 0, 1), (1, 2, 1, 1)), ((1, 0, 6, 0), (1, 0, 6, 0)),
            ((12, 0, 0, 0), (6, 0, 0, 0)), ((12, 0, 24, 0), (6, 0, 1, 0)), ((12, 35, 0, 0), (1, 35, 35, 35)),
            ((2, 12, 0, 0), (1, 3, 3, 3)), ((6, 12, 0, 0), (1, 1, 1, 1)), ((1, 0, 0, 6), (1, 12, 6, 6)),
            ((1, 12, 4, 6), (1, 12, 2, 6)), ((1, 4, 0, 2), (1, 4, 2, 2)), ((1, 3, 0, 1), (1, 1, 1, 1)),
            ((1000000, 0, 0, 0), (10, 0, 0, 0)), ((999983, 0, 999983**2, 0), (999983, 0, 1, 0)),
        ):
            realm = made(*given)
            self.assertTrue(same(numbers(realm), expected), given)
            self.assertEqual(repr(realm), "Realm" + repr(expected))

    def test_many_arguments(self):
        for inverse in range(1, 13):
            for ones in range(0, 25):
                for swaps in (0, 1, 2, 3, 4, 5, 6, 8, 12):
                    for squares in (0, 1, 2, 3, 4, 5, 6, 7, 9, 12):
                        realm = made(inverse, ones, swaps, squares)
                        self.assertEqual(numbers(realm), normal_by_hand(inverse, ones, swaps, squares))
                        self.assertEqual(made(*numbers(realm)), realm)
                        _, o, s, t = numbers(realm)
                        self.assertEqual((gcd(s, t), gcd(t, o), gcd(o, 2 * t)), (s, t, o))

    def test_great_numbers(self):
        realm = Realm(inverse=6, ones=HUGE, swaps=3 * HUGE, squares=HUGE // 4)
        self.assertEqual(numbers(realm), (1, 5**40, 5**40, 5**40))
        self.assertEqual(Realm(swaps=10**5000).swaps, 10**5000)
        self.assertEqual(repr(Realm(swaps=10**5000)), "Realm(1, 0, 1" + "0" * 5000 + ", 0)")

    def test_defaults(self):
        self.assertEqual(Realm(), made(1, 0, 0, 0))
        self.assertEqual(Realm(swaps=5), made(1, 0, 5, 0))
        self.assertEqual(Realm(squares=5, inverse=2), made(2, 0, 0, 5))
        with self.assertRaises(TypeError):
            Realm(1)

    def test_named_realms(self):
        self.assertEqual(numbers(Realm.everywhere()), (1, 0, 0, 0))
        self.assertEqual(numbers(Realm.commuting()), (1, 0, 1, 0))
        self.assertEqual(numbers(Realm.nowhere()), (1, 1, 1, 1))
        for name in ("everywhere", "commuting", "nowhere"):
            self.assertIsInstance(Realm.__dict__[name], staticmethod)

    def test_interface(self):
        self.assertLessEqual(
            {"inverse", "ones", "swaps", "squares", "within", "has_inverse", "sample", "__init__", "__contains__",
             "__and__", "__or__", "__bool__", "__eq__", "__repr__"},
            names_of_methods(Realm),
        )
        for name in ("inverse", "ones", "swaps", "squares"):
            with self.assertRaises(AttributeError):
                setattr(Realm(), name, 1)

    def test_wrong_numbers(self):
        for value in ANY_VALUES + [-5]:
            if isinstance(value, int) and not isinstance(value, bool) and value >= 0:
                if not 1 <= value <= 1000000:
                    fails(self, InvalidNumber, {"given": value}, Realm, inverse=value)
                continue
            fails(self, InvalidNumber, {"given": value}, Realm, squares=value)
            fails(self, InvalidNumber, {"given": value}, Realm, swaps=value, squares="other")
            fails(self, InvalidNumber, {"given": value}, Realm, squares=None, swaps=-7, ones=value)
            fails(self, InvalidNumber, {"given": value}, Realm, squares=None, swaps=-7, ones=-8, inverse=value)
        for value in (0, 1000001, 10**5000):
            fails(self, InvalidNumber, {"given": value}, Realm, inverse=value, ones=-1)

    def test_equality_and_truth(self):
        self.assertIs(Realm() == Realm.everywhere(), True)
        self.assertIs(Realm() != Realm.everywhere(), False)
        self.assertIs(Realm(ones=6, swaps=4) == Realm(ones=6, swaps=2, squares=6), True)
        realms = small_realms()
        for i, one in enumerate(realms):
            for j, other in enumerate(realms):
                self.assertIs(one == other, i == j)
                self.assertIs(one != other, i != j)
            self.assertIs(bool(one), one.ones != 1)
        for value in ANY_VALUES + [(1, 0, 0, 0), repr(Realm()), Realm, Rests(6)]:
            self.assertIs(Realm() == value, False)
        self.assertIs(bool(Realm.nowhere()), False)


class RingsTest(unittest.TestCase):
    def belongs_by_hand(self, ring, realm):
        # The words of [13], by the breakers instead of the numbers.
        if not ring.has_inverse(realm.inverse) or ring.times(realm.ones, ring.one()) != ring.zero():
            return False
        return ring.swap_breaker(realm.swaps) is None and ring.square_breaker(realm.squares) is None

    def test_rings_of_all_kinds(self):
        realms = small_realms()
        for ring in RINGS:
            for realm in realms:
                self.assertIs(ring in realm, self.belongs_by_hand(ring, realm), (ring, realm))
                self.assertIs(ring not in realm, not self.belongs_by_hand(ring, realm))

    def test_by_hand(self):
        self.assertIn(Rests(6), Realm.commuting())
        self.assertIn(Fractions(), Realm(inverse=999983))
        self.assertIn(Whole(6), Realm(inverse=3))
        self.assertNotIn(Whole(3), Realm(inverse=6))
        self.assertNotIn(Whole(), Realm(ones=6))
        self.assertIn(Sets(4), Realm(squares=1))
        self.assertNotIn(Rests(4), Realm(squares=1))
        self.assertIn(Quaternions(Rests(2)), Realm.commuting())
        self.assertNotIn(Matrices(2, Rests(2)), Realm(swaps=1, ones=2))
        self.assertIn(table_of(Triangles(Rests(2))), Realm(ones=2))
        for ring in RINGS:
            self.assertIn(ring, Realm.everywhere())
            self.assertNotIn(ring, Realm.nowhere())
            self.assertIn(ring, Realm(ones=ring.ones, swaps=ring.swaps, squares=ring.squares))

    def test_other_values(self):
        for value in ANY_VALUES + [Realm(), Rests, Ring, "rests(6)", [Rests(6)], (Rests(6),)]:
            self.assertIs(value in Realm(), False)
            self.assertIs(value in Realm.nowhere(), False)

    def test_has_inverse(self):
        for realm in small_realms():
            for q in list(range(-20, 40)) + [HUGE, HUGE + 1, 6**50]:
                if realm.ones == 1:
                    expected = True
                elif realm.ones != 0:
                    expected = gcd(q, realm.ones) == 1
                else:
                    expected = Whole(realm.inverse).has_inverse(q)
                self.assertIs(realm.has_inverse(q), expected, (realm, q))
        self.assertIs(Realm(inverse=6).has_inverse(q=12), True)

    def test_has_inverse_in_all_rings(self):
        for realm in small_realms():
            for ring in RINGS:
                if ring in realm:
                    for q in range(-12, 13):
                        self.assertTrue(ring.has_inverse(q) or not realm.has_inverse(q))


class OrderTest(unittest.TestCase):
    def test_within_by_the_rings(self):
        realms = small_realms()
        for one in realms:
            sample = one.sample() if one else None
            for other in realms:
                self.assertIs(one.within(other), sample is None or sample in other, (one, other))

    def test_within_keeps_all_rings(self):
        realms = small_realms()
        inside = {repr(realm): [ring in realm for ring in RINGS] for realm in realms}
        for one in realms:
            for other in realms:
                if one.within(other):
                    for here, there in zip(inside[repr(one)], inside[repr(other)]):
                        self.assertTrue(there or not here)

    def test_within_examples(self):
        nowhere, everywhere = Realm.nowhere(), Realm.everywhere()
        for realm in small_realms():
            self.assertIs(nowhere.within(realm), True)
            self.assertIs(realm.within(other=everywhere), True)
            self.assertIs(realm.within(nowhere), not realm)
            self.assertIs(realm.within(realm), True)
        self.assertIs(Realm(ones=9).within(Realm(inverse=2)), True)
        self.assertIs(Realm(ones=6).within(Realm(inverse=2)), False)
        self.assertIs(Realm(inverse=6).within(Realm(inverse=2)), True)
        self.assertIs(Realm(inverse=2).within(Realm(inverse=6)), False)
        self.assertIs(Realm(swaps=2).within(Realm(swaps=6)), True)
        self.assertIs(Realm(swaps=6).within(Realm(swaps=2)), False)
        self.assertIs(Realm(swaps=0).within(Realm(swaps=2)), False)
        self.assertIs(Realm(ones=4, squares=2, swaps=1).within(Realm(ones=4)), True)
        self.assertIs(Realm(ones=4).within(Realm(ones=4, squares=2, swaps=1)), False)

    def test_meet(self):
        realms = small_realms()
        inside = {repr(realm): [ring in realm for ring in RINGS] for realm in realms}
        for one in realms:
            for other in realms:
                meet = one & other
                self.assertEqual(meet, other & one)
                self.assertEqual(numbers(meet), normal_by_hand(
                    lcm(one.inverse, other.inverse), *[gcd(x, y) for x, y in zip(numbers(one)[1:], numbers(other)[1:])]
                ))
                self.assertIs(meet == one, one.within(other))
                for ring, here, there in zip(RINGS, inside[repr(one)], inside[repr(other)]):
                    self.assertIs(ring in meet, here and there)

    def test_join(self):
        realms = small_realms()
        order = {(repr(one), repr(other)): one.within(other) for one in realms for other in realms}
        for one in realms:
            for other in realms:
                join = one | other
                self.assertEqual(join, other | one)
                self.assertTrue(one.within(join) and other.within(join))
                self.assertIs(join == other, order[repr(one), repr(other)])
                for third in realms:
                    if order[repr(one), repr(third)] and order[repr(other), repr(third)]:
                        self.assertTrue(join.within(third), (one, other, third))

    def test_join_examples(self):
        for one, other, join in (
            ((6, 0, 1, 0), (10, 0, 1, 0), (2, 0, 1, 0)), ((30, 0, 7, 0), (1, 6, 2, 6), (5, 0, 14, 0)),
            ((6, 0, 0, 0), (1, 1, 1, 1), (6, 0, 0, 0)), ((1, 4, 2, 2), (1, 6, 3, 3), (1, 12, 6, 6)),
            ((1, 1, 1, 1), (1, 1, 1, 1), (1, 1, 1, 1)), ((1, 9, 3, 9), (10, 0, 1, 0), (10, 0, 3, 0)),
            ((1, 2, 1, 1), (1, 2, 2, 2), (1, 2, 2, 2)), ((3, 0, 2, 0), (1, 9, 9, 9), (1, 0, 18, 0)),
        ):
            self.assertEqual(numbers(made(*one) | made(*other)), join)
            self.assertEqual(numbers(made(*other) | made(*one)), join)

    def test_joins_and_meets_are_in_normal_form(self):
        realms = small_realms()
        for one in realms:
            for other in realms:
                for realm in (one & other, one | other):
                    self.assertEqual(made(*numbers(realm)), realm)

    def test_nothing_is_changed(self):
        one, other = made(6, 0, 5, 0), made(1, 12, 4, 6)
        kept = (numbers(one), numbers(other))
        self.assertIsNotNone((one & other, one | other, one.within(other), one.sample(), Rests(5) in one))
        self.assertEqual((numbers(one), numbers(other)), kept)

    def test_other_operands(self):
        for call in (lambda x: x & 1, lambda x: x | 1, lambda x: 1 & x, lambda x: None | x):
            with self.assertRaises(TypeError):
                call(Realm())


class SampleTest(unittest.TestCase):
    def check(self, realm):
        ring = realm.sample()
        self.assertIsInstance(ring, Ring)
        self.assertEqual((ring.ones, ring.swaps, ring.squares), numbers(realm)[1:], realm)
        self.assertIn(ring, realm)
        if realm.ones == 0:
            for q in range(1, 60):
                self.assertIs(ring.has_inverse(q), realm.has_inverse(q), (realm, q))

    def test_small_realms(self):
        for realm in small_realms():
            if realm:
                self.check(realm)
            else:
                fails(self, EmptyRealm, {}, realm.sample)

    def test_great_realms(self):
        for realm in (
            Realm(ones=1000000), Realm(ones=1000000, swaps=1), Realm(ones=1000000, squares=500000),
            Realm(ones=1000000, squares=500000, swaps=1), Realm(ones=999983), Realm(ones=999983, swaps=1),
            Realm(swaps=1000000), Realm(swaps=1000000, inverse=999983), Realm(inverse=999983),
            Realm(inverse=510510, swaps=1), Realm(inverse=510510, swaps=19),
            Realm(ones=1000000, squares=500000, swaps=125),
        ):
            self.check(realm)

    def test_too_great(self):
        for realm in (
            Realm(ones=1000001), Realm(swaps=1000001), Realm(squares=500001), Realm(swaps=HUGE),
            Realm(ones=HUGE, swaps=1),
            Realm(inverse=999983) & Realm(inverse=2), Realm(inverse=999983) & Realm(inverse=2) & Realm(swaps=1),
        ):
            fails(self, TooGreat, {"most": 1000000}, realm.sample)

    def test_inverses_above_the_bound(self):
        steps = [("constant", "b", 1, 997), ("constant", "c", 1, 991), ("constant", "d", 1, 983)]
        realm = realm_of(Program(["a"], steps, ["a"]), Wish(Form.word("a")))
        self.assertEqual(numbers(realm), (997 * 991 * 983, 0, 0, 0))
        self.assertEqual(repr(realm), "Realm(971230541, 0, 0, 0)")
        fails(self, TooGreat, {"most": 1000000}, realm.sample)
        self.assertIn(Fractions(), realm)
        self.assertIn(Rests(10**9), realm)
        self.assertNotIn(Rests(997), realm)
        self.assertNotIn(Whole(997), realm)
        self.assertTrue(realm.within(Realm(inverse=991 * 983)))
        self.assertFalse(Realm(inverse=991 * 983).within(realm))
        self.assertEqual(realm & Realm(inverse=997), realm)
        self.assertEqual(numbers(realm | Realm(inverse=2 * 997)), (997, 0, 0, 0))
        self.assertEqual(numbers(realm | Realm(ones=991)), (997 * 983, 0, 0, 0))
        self.assertEqual(realm | Realm.nowhere(), realm)
        self.assertEqual(numbers(realm & Realm(ones=991 * 6)), (1, 6, 6, 6))


if __name__ == "__main__":
    unittest.main()
