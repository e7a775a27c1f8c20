"""Spans: what is told by some forms in a realm, and papers that tell it of one form."""

from numbertypes.errors import TooMany
from numbertypes.fits import is_swap
from numbertypes.forms import NOTHING, Form, is_term
from numbertypes.integers import is_share, product_of_shares, share, sum_of_shares
from numbertypes.layouts import Layout
from numbertypes.normal import alike, check_fits, normal_form
from numbertypes.papers import as_tuple, copied, is_list_of

MOST_FORMS = 8
MOST_NAMES = 4


def names_of(forms):
    """The ascending list of the names of several forms."""
    return sorted(set([name for form in forms for name in form.names()]))


def check_names(forms):
    """Raises TooMany for forms that have too many names in all."""
    if len(names_of(forms)) > MOST_NAMES:
        raise TooMany(MOST_NAMES)


class Span:
    """The forms that are told by shown forms in a realm."""

    def __init__(self, realm, *forms):
        if len(forms) > MOST_FORMS:
            raise TooMany(MOST_FORMS)
        for form in forms:
            check_fits(form, realm)
        check_names(forms)
        self._realm = realm
        self._shown = forms

    @property
    def realm(self):
        """The realm."""
        return self._realm

    @property
    def shown(self):
        """The tuple of the shown forms."""
        return self._shown

    def order(self, form):
        """The least number of times of the form that is told, 0 if there is none."""
        layout, lattice = self._laid_out([form])
        return layout.order(lattice, form)

    def telling(self, form):
        """A Told or an Untold that holds."""
        layout, lattice = self._laid_out([form])
        if layout.tells(lattice, [form]):
            return Told(self, form, layout.shares_making(lattice, form))
        return Untold(self, form, layout.untold_row(lattice, form))

    def fewest(self, *forms):
        """The least list of the indexes of the fewest shown forms that tell all these forms, or None."""
        layout, lattice = self._laid_out(forms)
        if not layout.tells(lattice, forms):
            return None
        choices = [([], layout.told_by([]))]
        while True:
            for indexes, part in choices:
                if layout.tells(part, forms):
                    return indexes
            choices = layout.longer(choices)

    def __len__(self):
        return len(self._shown)

    def __repr__(self):
        return f"Span({len(self._shown)} forms)"

    def _laid_out(self, forms):
        # The pair of the layout of the shown forms and these, and the lattice of what all shown forms tell.
        for form in forms:
            check_fits(form, self._realm)
            check_names([*self._shown, form])
        layout = Layout(self._realm, self._shown, forms)
        return (layout, layout.told_by(list(range(len(self._shown)))))


class Told:
    """The paper that tells shares of the shown forms whose sum is alike to a form."""

    def __init__(self, span, form, shares):
        self._span = span
        self._form = form
        self._shares = copied(shares)

    @property
    def span(self):
        """The span."""
        return self._span

    @property
    def form(self):
        """The form."""
        return self._form

    @property
    def shares(self):
        """The shares, which may be any value."""
        return as_tuple(self._shares)

    def holds(self):
        """Whether the sum of the shown forms times the shares is alike to the form."""
        realm, shown = self._span.realm, self._span.shown
        if not is_list_of(self._shares, len(shown)) or not realm.has_inverse(self._form.divisor):
            return False
        if not all([is_share(part) and realm.has_inverse(part[1]) for part in self._shares]):
            return False
        total = Form()
        for form, (p, q) in zip(shown, self._shares):
            total = total + form.scaled(p, q)
        return alike(total, self._form, realm)

    def __bool__(self):
        return True


class Untold:
    """The paper that tells a row which shows that a form is not told."""

    def __init__(self, span, form, row):
        self._span = span
        self._form = form
        self._row = copied(row)

    @property
    def span(self):
        """The span."""
        return self._span

    @property
    def form(self):
        """The form."""
        return self._form

    @property
    def row(self):
        """The row, which may be any value."""
        return as_tuple(self._row)

    def holds(self):
        """Whether the row is one of [19] for the form."""
        realm, shown = self._span.realm, self._span.shown
        if not realm.has_inverse(self._form.divisor) or not self._is_row():
            return False
        found = {word: share(p, q) for word, p, q in self._row}
        told = [sum_with(normal_form(form, realm), found) for form in shown] + rule_sums(realm, found)
        if not all([realm.has_inverse(q) for _, q in told]):
            return False
        return not realm.has_inverse(sum_with(normal_form(self._form, realm), found)[1])

    def _is_row(self):
        if not isinstance(self._row, (list, tuple)) or not all([is_term(term) for term in self._row]):
            return False
        words = [term[0] for term in self._row]
        names = names_of([*self._span.shown, self._form])
        return len(set(words)) == len(words) and all([name in names for word in words for name in word])

    def __bool__(self):
        return False


def sum_with(form, row):
    """The sum of a row, as a dict from words to shares, with a form."""
    total = NOTHING
    for word in form.words():
        total = sum_of_shares(total, product_of_shares(form.share_of(*word), row.get(word, NOTHING)))
    return total


def rule_sums(realm, row):
    """The list of the sums of a row with the rules of a realm in which it can be other than zero."""
    sums = []
    for word, amount in row.items():
        sums.append(product_of_shares((realm.ones, 1), amount))
        if is_swap(word):
            sums.append(difference_times(realm.swaps, amount, row.get((word[1], word[0]), NOTHING)))
        elif len(word) > 0:
            single, double = word[:1], (word[0], word[0])
            sums.append(difference_times(realm.squares, row.get(double, NOTHING), row.get(single, NOTHING)))
    return sums


def difference_times(number, x, y):
    """An integer times the difference of two shares."""
    return product_of_shares((number, 1), sum_of_shares(x, (-y[0], y[1])))
