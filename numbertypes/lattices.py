"""Lattices: all sums of integer rows times integers."""

from numbertypes.integers import common, product_of_shares, share, stripped, sum_of_shares


def combined(s, one, t, other):
    """The row s times one row plus t times another row."""
    return [s * x + t * y for x, y in zip(one, other)]


def bezout(one, other):
    """The tuple (g, s, t) in which g, the common divisor of two integers, is s times the one plus t times the other."""
    before, now = (one, 1, 0), (other, 0, 1)
    while now[0] != 0:
        times = before[0] // now[0]
        before, now = now, tuple([x - times * y for x, y in zip(before, now)])
    return before if before[0] > 0 else tuple([-x for x in before])


def first_lattice(places, marks, modulus):
    """The lattice of all rows with one entry, the modulus, and without marks; of no rows if the modulus is 0."""
    if modulus == 0:
        return Lattice(places, 0, {})
    width = range(places + marks)
    return Lattice(places, modulus, {at: [modulus if at == k else 0 for k in width] for at in range(places)})


class Lattice:
    """All sums of some rows times integers.

    A row has an entry for each place, and behind these its marks. What is done to the entries of rows is done to
    their marks, so that they tell of which rows a row was made. Entries and marks count modulo the modulus, unless
    it is 0.
    """

    def __init__(self, places, modulus, basis):
        self._size = places
        self._modulus = modulus
        # By the place of the first entry that is not 0, and is above 0, one row of the lattice at most.
        self._basis = basis

    def with_row(self, row):
        """The lattice to which one more row belongs."""
        made = Lattice(self._size, self._modulus, {at: self._basis[at] for at in self._basis})
        made._put(self._small(row))
        return made

    def _small(self, row):
        return row if self._modulus == 0 else [entry % self._modulus for entry in row]

    def _put(self, row):
        rest = row
        for at in range(self._size):
            if rest[at] != 0 and at not in self._basis:
                self._basis[at] = rest if rest[at] > 0 else [-entry for entry in rest]
                break
            if rest[at] != 0:
                old = self._basis[at]
                part, s, t = bezout(old[at], rest[at])
                self._basis[at] = self._small(combined(s, old, t, rest))
                rest = self._small(combined(old[at] // part, rest, -(rest[at] // part), old))
        if self._modulus == 0:
            self._tidy()

    def _tidy(self):
        # Makes the entries above first entries small, because they would grow with each row otherwise.
        places = sorted(self._basis)
        for at in reversed(places):
            row = self._basis[at]
            for later in places:
                if later > at:
                    under = self._basis[later]
                    row = combined(1, row, -(row[later] // under[later]), under)
            self._basis[at] = row

    def _cleared(self, row, at):
        # The pair of the least factor that brings the entry at the place of a basis row to a multiple of the
        # entry there, and the row times this factor, less this multiple.
        under = self._basis[at]
        part = common(row[at], under[at])
        factor = under[at] // part
        return (factor, self._small(combined(factor, row, -(row[at] // part), under)))

    def rows(self):
        """The list of the rows of the basis, by the places of their first entries."""
        return [list(self._basis[at]) for at in sorted(self._basis)]

    def factors(self, row):
        """The list of how many times each row of the basis makes a row of the lattice, if the modulus is 0."""
        found = []
        rest = row
        for at in sorted(self._basis):
            under = self._basis[at]
            found.append(rest[at] // under[at])
            rest = combined(1, rest, -found[-1], under)
        return found

    def divided(self, row):
        """The pair of the least factor from 1 on that brings the row into the lattice, and what is left then.

        If no factor does, entries are left that are not 0. The marks that are left tell, with other signs, of which
        rows the factor times the row is made.
        """
        factor = 1
        rest = self._small(row)
        for at in sorted(self._basis):
            times, rest = self._cleared(rest, at)
            factor = factor * times
        return (factor, rest)

    def witness(self, row, units):
        """The shares for the places that show that no factor whose primes divide units brings the row in.

        Their sum with each row of the lattice is whole, and their sum with the row has a denominator that has other
        primes. There are such shares if there is no such factor; otherwise they are not asked for.
        """
        rest = self._small(row)
        for at in sorted(self._basis):
            times, cleared = self._cleared(rest, at)
            if stripped(times, units) != 1:
                return self._dual(at, (1, self._basis[at][at]))
            rest = cleared
        left = [at for at in range(self._size) if rest[at] != 0]
        # No prime of units divides units + 1.
        return self._dual(left[0], share(1, abs(rest[left[0]]) * (units + 1)))

    def _dual(self, place, start):
        # The shares with this one at a place and none behind it, whose sum with each row that begins ahead of it is 0.
        found = {place: start}
        for at in sorted(self._basis, reverse=True):
            if at < place:
                under = self._basis[at]
                total = (0, 1)
                for later, amount in found.items():
                    total = sum_of_shares(total, product_of_shares((under[later], 1), amount))
                found[at] = product_of_shares(total, share(-1, under[at]))
        return [found.get(at, (0, 1)) for at in range(self._size)]
