"""Wishes: what the outputs of a program ought to be."""

from numbertypes.errors import InvalidText, NotWhole, WrongCount
from numbertypes.forms import Form

MOST_FORMS = 4


class Wish:
    """A list of 1 to 4 forms whose shares are whole."""

    def __init__(self, *forms):
        if not 1 <= len(forms) <= MOST_FORMS:
            raise WrongCount(len(forms))
        for at, form in enumerate(forms):
            if form.divisor != 1:
                raise NotWhole(at)
        self._forms = forms

    @staticmethod
    def read(text):
        """The wish with a text, which has a line for each form."""
        if not isinstance(text, str):
            raise InvalidText(0)
        *lines, tail = text.split("\n")
        forms = []
        for at, line in enumerate(lines):
            try:
                forms.append(Form.read(line))
            except InvalidText:
                raise InvalidText(at) from None
        if tail != "" or len(lines) == 0:
            raise InvalidText(len(lines))
        return Wish(*forms)

    def forms(self):
        """The list of the forms."""
        return list(self._forms)

    def text(self):
        """The text of the wish, as read reads it."""
        return "".join([form.text() + "\n" for form in self._forms])

    def __len__(self):
        return len(self._forms)

    def __eq__(self, other):
        return isinstance(other, Wish) and self._forms == other._forms

    def __repr__(self):
        return f"Wish({len(self)} forms)"
