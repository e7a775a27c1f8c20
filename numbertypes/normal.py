"""Normal forms in a realm, and what parts two forms there."""

from numbertypes.errors import NoInverse
from numbertypes.fits import breaking_things, is_swap
from numbertypes.forms import NOTHING, form_of
from numbertypes.integers import inverse_modulo, sum_of_shares


def normal_form(form, realm):
    """The normal form, which is the same for all forms that are alike in the realm."""
    check_fits(form, realm)
    if realm.ones == 0:
        found = {word: form.share_of(*word) for word in form.words()}
        if realm.swaps != 0:
            move_swaps(found, realm.swaps)
        return form_of(list(found.items()))
    found = {word: (rest_of(form.share_of(*word), realm.ones), 1) for word in form.words()}
    move_swaps(found, realm.swaps)
    for name in form.names():
        move(found, (name, name), (name,), realm.squares)
    return form_of([(word, (rest_of(amount, realm.ones), 1)) for word, amount in found.items()])


def move_swaps(found, swaps):
    """Leaves all words whose names do not ascend their rests, and puts all else at the words whose names do."""
    for word in list(found):
        if is_swap(word) and word[0] > word[1]:
            move(found, word, (word[1], word[0]), swaps)


def move(found, word, place, modulus):
    """Leaves a word its rest modulo a number, and puts all else at the place of another word."""
    amount = found.get(word, NOTHING)
    rest = rest_of(amount, modulus)
    found[word] = (rest, 1)
    found[place] = sum_of_shares(found.get(place, NOTHING), sum_of_shares(amount, (-rest, 1)))


def rest_of(amount, modulus):
    """The integer from 0 to modulus - 1 that q times is p modulo the modulus, for a share (p, q)."""
    return amount[0] * inverse_modulo(amount[1], modulus) % modulus


def check_fits(form, realm):
    """Raises NoInverse with the divisor of a form that does not fit the realm."""
    if not realm.has_inverse(form.divisor):
        raise NoInverse(form.divisor)


def alike(one, other, realm):
    """Whether two forms have equal values in all rings of the realm for all things."""
    return normal_form(one, realm) == normal_form(other, realm)


def parting(one, other, realm):
    """None if two forms are alike, otherwise a ring of the realm and things for all names that part them."""
    if alike(one, other, realm):
        return None
    ring = realm.sample()
    things = {name: ring.zero() for name in one.names() + other.names()}
    things.update(breaking_things(one - other, ring))
    return (ring, things)
