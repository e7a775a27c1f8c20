"""Integers, names, shares and what is told of divisors."""

import unittest
from math import gcd

from numbertypes.errors import InvalidNumber
from numbertypes.integers import (
    common,
    divides,
    is_int,
    is_name,
    is_share,
    multiple,
    product_of_shares,
    radical,
    read_digits,
    read_integer,
    share,
    stripped,
    sum_of_shares,
    written,
    written_share,
)
from samples import ANY_VALUES, NO_INTEGERS, fails, same


class KindsTest(unittest.TestCase):
    def test_integers(self):
        for value in (0, 1, -1, 10**30, -(10**30), 10**5000):
            self.assertIs(is_int(value), True)
        for value in NO_INTEGERS:
            self.assertIs(is_int(value), False)
        self.assertIs(is_int(value=3), True)

    def test_names(self):
        for value in ("a", "z", "abcdef", "zzzzzz", "ins", "i", "ou", "outs", "procs", "gives", "n", "inn"):
            self.assertIs(is_name(value), True, value)
        wrong = ["", "abcdefg", "A", "aB", "Abc", "a1", "1", "a_b", "_", "a b", " a", "a ", "a\n", "a-b", "a*b"]
        for value in wrong + ["in", "out", "proc", "give", "x" * 4000]:
            self.assertIs(is_name(value), False, value)
        for value in (None, True, False, 0, 1, 10**40, (), [], ("a",), ["a"], ("a", "b"), ["a", "b", "c"]):
            self.assertIs(is_name(value), False)
        self.assertIs(is_name(value="abc"), True)

    def test_shares(self):
        for value in ((0, 1), (1, 1), (-1, 1), (3, 2), (-3, 2), (10**40, 3), (1, 10**40), (10**30 + 1, 10**30)):
            self.assertIs(is_share(value), True)
        wrong = [
            (0, 2), (2, 2), (2, 4), (-6, 4), (1, 0), (0, 0), (1, -1), (-1, -2), (10**40, 10), [0, 1], [3, 2],
            (1,), (1, 2, 3), (), (True, 1), (1, True), (False, 1), ("1", 1), (1, "2"), (None, 1), (1, None),
            ((1, 2), 1), (1, (1, 2)), ((0, 1),), 1, 0, "1/2", None, True, [(0, 1)], ([0], [1]),
        ]
        for value in wrong:
            self.assertIs(is_share(value), False, value)
        self.assertIs(is_share(value=(1, 2)), True)


class DivisorsTest(unittest.TestCase):
    def test_common(self):
        for numbers, expected in (
            ((), 0), ((0,), 0), ((0, 0, 0), 0), ((6,), 6), ((-6,), 6), ((4, 6), 2), ((-4, 6), 2), ((4, -6), 2),
            ((-4, -6), 2), ((0, 5), 5), ((5, 0), 5), ((0, -5), 5), ((7, 9), 1), ((12, 18, 30), 6), ((12, 18, 35), 1),
            ((6 * 10**40, 4 * 10**40), 2 * 10**40), ((0, 12, 0, 18), 6),
        ):
            self.assertTrue(same(common(*numbers), expected), numbers)

    def test_multiple(self):
        for numbers, expected in (
            ((), 1), ((0,), 0), ((0, 0), 0), ((6,), 6), ((-6,), 6), ((4, 6), 12), ((-4, 6), 12), ((4, -6), 12),
            ((-4, -6), 12), ((0, 5), 0), ((5, 0), 0), ((5, 0, 7), 0), ((2, 3, 4, 5, 6), 60), ((1, 1), 1), ((-1,), 1),
            ((6 * 10**40, 4 * 10**40), 12 * 10**40),
        ):
            self.assertTrue(same(multiple(*numbers), expected), numbers)

    def test_divides(self):
        for one in range(-7, 8):
            for other in range(-25, 26):
                expected = any(one * k == other for k in range(-30, 31))
                self.assertIs(divides(one, other), expected, (one, other))
        self.assertIs(divides(0, 0), True)
        self.assertIs(divides(0, 10**40), False)
        self.assertIs(divides(10**40, 0), True)
        self.assertIs(divides(10**20, 10**40), True)
        self.assertIs(divides(10**40, 10**20), False)
        self.assertIs(divides(one=3, other=-6), True)
        self.assertIs(divides(one=-6, other=3), False)

    def test_radical(self):
        for number, expected in (
            (1, 1), (2, 2), (4, 2), (12, 6), (1000000, 10), (999983, 999983), (720720, 30030), (524288, 2), (531441, 3),
            (999999, 3 * 7 * 11 * 13 * 37), (994009, 997), (510510, 510510), (49, 7), (18, 6), (999998, 2 * 31 * 127),
        ):
            self.assertTrue(same(radical(number), expected), number)
        for number in range(1, 300):
            primes = [p for p in range(2, number + 1) if number % p == 0 and all(p % k for k in range(2, p))]
            expected = 1
            for prime in primes:
                expected *= prime
            self.assertEqual(radical(number=number), expected)

    def test_radical_refuses(self):
        for value in NO_INTEGERS + [0, -1, -12, 1000001, 10**40, -(10**40), 10**5000]:
            fails(self, InvalidNumber, {"given": value}, radical, value)
        fails(self, InvalidNumber, {"given": 0}, radical, number=0)

    def test_stripped(self):
        for number, base, expected in (
            (0, 1, 0), (0, 6, 0), (0, 10**40, 0), (1, 1, 1), (1, 6, 1), (12, 1, 12), (12, 2, 3), (12, 3, 4), (12, 6, 1),
            (12, 5, 12), (12, 18, 1), (18, 12, 1), (2**100 * 3, 2, 3), (2**100 * 3**57 * 5, 6, 5), (35, 6, 35),
            (2**7 * 3**5, 4, 3**5), (10**40 * 7, 10, 7), (10**40, 10**40, 1), (1000, 10**6, 1), (49, 7, 1),
            (2**3000 * 11, 2 * 3, 11), (2, 2**3000, 1),
        ):
            self.assertTrue(same(stripped(number, base), expected), (number, base))
        for number in range(1, 80):
            for base in range(1, 40):
                expected = max(d for d in range(1, number + 1) if number % d == 0 and gcd(d, base) == 1)
                self.assertEqual(stripped(number=number, base=base), expected)


class ShareTest(unittest.TestCase):
    def test_lowest_terms(self):
        for p, q, expected in (
            (0, 1, (0, 1)), (0, 7, (0, 1)), (6, 4, (3, 2)), (-6, 4, (-3, 2)), (4, 2, (2, 1)), (5, 1, (5, 1)),
            (10**40, 10**39, (10, 1)), (10**39, 10**40, (1, 10)), (-1, 1, (-1, 1)),
        ):
            self.assertTrue(same(share(p, q), expected), (p, q))
        self.assertTrue(same(share(9), (9, 1)))
        self.assertTrue(same(share(q=6, p=9), (3, 2)))
        self.assertTrue(same(share(p=0), (0, 1)))

    def test_wrong_denominators(self):
        for value in NO_INTEGERS + [0, -1, -6, -(10**40)]:
            fails(self, InvalidNumber, {"given": value}, share, 3, value)
        fails(self, InvalidNumber, {"given": True}, share, p=1, q=True)

    def test_kinds_agree(self):
        for value in ANY_VALUES:
            expected = isinstance(value, tuple) and len(value) == 2 and all(is_int(part) for part in value)
            expected = expected and value[1] >= 1 and same(share(value[0], value[1]), value)
            self.assertIs(is_share(value), expected)

    def test_sums_and_products(self):
        shares = [share(p, q) for p in range(-4, 5) for q in range(1, 6)] + [(10**5000, 7**3000)]
        for x in shares:
            for y in shares:
                self.assertTrue(same(sum_of_shares(x, y), share(x[0] * y[1] + x[1] * y[0], x[1] * y[1])))
                self.assertTrue(same(product_of_shares(x, y), share(x[0] * y[0], x[1] * y[1])))


class TextsOfNumbersTest(unittest.TestCase):
    def test_digits(self):
        for text, number in (("0", 0), ("7", 7), ("10", 10), ("999", 999)):
            self.assertEqual(read_digits(text, 3), number)
            self.assertEqual(read_integer(text, 3), number)
        for text in ("", "00", "01", "1000", "-1", "+1", " 1", "1 ", "1.0", "1_0", "a", "-", "1\n", "--1"):
            self.assertIsNone(read_digits(text, 3))

    def test_integers(self):
        for text, number in (("-1", -1), ("-999", -999), ("-10", -10)):
            self.assertEqual(read_integer(text, 3), number)
        for text in ("", "-", "-0", "-00", "-01", "-1000", "--1", "- 1", "+1", "1-", "-a"):
            self.assertIsNone(read_integer(text, 3))

    def test_written(self):
        for number in list(range(-1200, 1200)) + [10**k + d for k in range(60, 140) for d in (-1, 0, 1)]:
            self.assertEqual(written(number), str(number))
        for k in (4299, 4300, 4301, 8191, 8192, 8193, 20000):
            self.assertEqual(written(10**k), "1" + "0" * k)
            self.assertEqual(written(10**k - 1), "9" * k)
            self.assertEqual(written(-(10**k) - 5), "-1" + "0" * (k - 1) + "5")
        self.assertEqual(written(12 * 10**6400 + 34), "12" + "0" * 6398 + "34")

    def test_written_shares(self):
        for p, q, text in ((3, 1, "3"), (-3, 1, "-3"), (3, 2, "3/2"), (-6, 4, "-6/4"), (0, 1, "0"), (0, 5, "0/5")):
            self.assertEqual(written_share(p, q), text)


if __name__ == "__main__":
    unittest.main()
