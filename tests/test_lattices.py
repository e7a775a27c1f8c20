"""Lattices, on which spans stand: what belongs to them, and what shows that a row does not."""

import unittest
from itertools import product
from math import gcd
from random import Random

from numbertypes.integers import product_of_shares, sum_of_shares
from numbertypes.lattices import bezout, first_lattice


def sum_of_products(shares, row):
    total = (0, 1)
    for amount, entry in zip(shares, row):
        total = sum_of_shares(total, product_of_shares(amount, (entry, 1)))
    return total


class LatticesTest(unittest.TestCase):
    def test_bezout(self):
        for one, other in product(range(-12, 13), repeat=2):
            if (one, other) != (0, 0):
                part, s, t = bezout(one, other)
                self.assertEqual((part, s * one + t * other), (gcd(one, other), part))

    def check(self, rows, places, modulus, target):
        """Checks what is told of a row, and returns its least factor, 0 if there is none."""
        lattice = first_lattice(places, len(rows), modulus)
        for at, row in enumerate(rows):
            lattice = lattice.with_row(row + [int(at == mark) for mark in range(len(rows))])
        factor, rest = lattice.divided(target + [0] * len(rows))
        if any(rest[:places]):
            self.assertEqual(modulus, 0)
            shares = lattice.witness(target + [0] * len(rows), 1)
        else:
            made = [-sum(mark * row[at] for mark, row in zip(rest[places:], rows)) for at in range(places)]
            for entry, wanted in zip(made, target):
                left = entry - factor * wanted
                self.assertEqual(left % modulus if modulus else left, 0)
            if factor == 1:
                return 1
            shares = lattice.witness(target + [0] * len(rows), 1)
        whole = [[modulus * (at == place) for at in range(places)] for place in range(places)] if modulus else []
        for row in rows + whole:
            self.assertEqual(sum_of_products(shares, row)[1], 1)
        self.assertNotEqual(sum_of_products(shares, target)[1], 1)
        return 0 if any(rest[:places]) else factor

    def test_rows_and_factors(self):
        random = Random(9)
        for _ in range(200):
            places = random.randint(1, 4)
            rows = [[random.randint(-9, 9) for _ in range(places)] for _ in range(random.randint(0, 5))]
            lattice = first_lattice(places, 0, 0)
            for row in rows:
                lattice = lattice.with_row(row)
            basis = lattice.rows()
            self.assertLessEqual(len(basis), min(places, len(rows)))
            for row in rows + basis:
                factors = lattice.factors(row)
                self.assertEqual([sum(k * part[at] for k, part in zip(factors, basis)) for at in range(places)], row)

    def test_drawn_rows(self):
        random = Random(6)
        for _ in range(600):
            places = random.randint(1, 4)
            modulus = random.choice([0, 0, 1, 2, 6, 12, 30, 10**12])
            great = random.choice([2, 9, 10**9])
            rows = [[random.randint(-great, great) for _ in range(places)] for _ in range(random.randint(0, 4))]
            target = [random.randint(-great, great) for _ in range(places)]
            factor = self.check(rows, places, modulus, target)
            if factor > 0:
                self.assertEqual(self.check(rows, places, modulus, [factor * entry for entry in target]), 1)
            for prime in (2, 3, 5, 7):
                if factor > 0 and factor % prime == 0:
                    less = [factor // prime * entry for entry in target]
                    self.assertEqual(self.check(rows, places, modulus, less), prime)

    def test_units(self):
        lattice = first_lattice(2, 0, 0).with_row([12, 0])
        self.assertEqual(lattice.divided([1, 0])[0], 12)
        shares = lattice.witness([1, 0], 2)
        self.assertEqual((sum_of_products(shares, [12, 0])[1], sum_of_products(shares, [1, 0])[1] % 3), (1, 0))
        shares = lattice.witness([0, 5], 6)
        self.assertEqual(sum_of_products(shares, [12, 0]), (0, 1))
        self.assertEqual(sum_of_products(shares, [0, 5]), (1, 7))

    def test_a_lattice_stays(self):
        empty = first_lattice(1, 0, 0)
        one = empty.with_row([6])
        two = one.with_row([4])
        self.assertEqual([part.divided([1])[0] for part in (empty, one, two)], [1, 6, 2])
        self.assertEqual(empty.divided([1])[1], [1])


if __name__ == "__main__":
    unittest.main()
