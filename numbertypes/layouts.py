"""Forms in a realm as rows of integers, so that lattices tell which forms are told."""

from numbertypes.fits import is_swap, whole_form
from numbertypes.forms import NOTHING
from numbertypes.integers import share, stripped
from numbertypes.lattices import first_lattice
from numbertypes.normal import normal_form


def coupled(word):
    """The words that stand in rules of a realm together with a word."""
    if is_swap(word):
        return [word, (word[1], word[0])]
    return [word] if len(word) == 0 else [word[:1], (word[0], word[0])]


class Layout:
    """The rows of some shown forms and of others: their places are words, their marks are the shown forms.

    The row of a form is that of its normal form, times the divisor of this one. The divisors have inverses in the
    realm, so they change nothing in what is told.
    """

    def __init__(self, realm, shown, others):
        self._realm = realm
        self._shown = [normal_form(form, realm) for form in shown]
        normals = self._shown + [normal_form(form, realm) for form in others]
        words = [near for form in normals for word in form.words() for near in coupled(word)]
        self._words = sorted(set(words))
        self._rules = first_lattice(len(self._words), len(shown), realm.ones)
        for word in self._words:
            if is_swap(word):
                self._add_rule(word, (word[1], word[0]), realm.swaps)
            elif len(word) == 2:
                self._add_rule(word, word[:1], realm.squares)

    def _add_rule(self, word, other, number):
        self._rules = self._rules.with_row(self._placed_row({word: number, other: -number}, None))

    def _placed_row(self, numbers, mark):
        marks = [1 if at == mark else 0 for at in range(len(self._shown))]
        return [numbers.get(word, 0) for word in self._words] + marks

    def _form_row(self, normal, mark):
        whole = whole_form(normal)
        return self._placed_row({word: whole.share_of(*word)[0] for word in whole.words()}, mark)

    def _shown_row(self, at):
        return self._form_row(self._shown[at], at)

    def _other_row(self, form):
        return self._form_row(normal_form(form, self._realm), None)

    def told_by(self, indexes):
        """The lattice of what is told by the shown forms with these indexes."""
        lattice = self._rules
        for at in indexes:
            lattice = lattice.with_row(self._shown_row(at))
        return lattice

    def longer(self, choices):
        """For all pairs (indexes, lattice) of a length, ascending, those with one more index behind them."""
        found = []
        for indexes, lattice in choices:
            first = 0 if len(indexes) == 0 else indexes[-1] + 1
            for at in range(first, len(self._shown)):
                found.append(([*indexes, at], lattice.with_row(self._shown_row(at))))
        return found

    def order(self, lattice, form):
        """The least number of times of the form that the lattice tells, 0 if there is none."""
        factor, rest = lattice.divided(self._other_row(form))
        if any([entry != 0 for entry in rest[: len(self._words)]]):
            return 0
        return stripped(factor, self._realm.inverse)

    def tells(self, lattice, forms):
        """Whether the lattice tells all of several forms."""
        return all([self.order(lattice, form) == 1 for form in forms])

    def shares_making(self, lattice, form):
        """The list of the shares of the shown forms that make a form, which the lattice tells."""
        factor, rest = lattice.divided(self._other_row(form))
        divisor = normal_form(form, self._realm).divisor
        marks = rest[len(self._words) :]
        return [share(-mark * shown.divisor, factor * divisor) for mark, shown in zip(marks, self._shown)]

    def untold_row(self, lattice, form):
        """The row of [19] for a form that the lattice does not tell."""
        shares = lattice.witness(self._other_row(form), self._realm.inverse)
        return [(word, p, q) for word, (p, q) in zip(self._words, shares) if (p, q) != NOTHING]
