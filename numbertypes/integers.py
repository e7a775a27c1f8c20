"""Integers, names and shares, and what can be told of integers by their divisors."""

from math import gcd, lcm

from numbertypes.errors import InvalidNumber

LETTERS = "abcdefghijklmnopqrstuvwxyz"
DIGITS = "0123456789"
KEPT_WORDS = ("in", "out", "proc", "give")
MOST_LETTERS = 6
MOST_RADICAL = 1000000


def is_int(value):
    """Whether any value is an integer; True and False are none."""
    return isinstance(value, int) and not isinstance(value, bool)


def is_between(value, least, most):
    """Whether any value is an integer from least to most."""
    return is_int(value) and least <= value <= most


def is_name(value):
    """Whether any value is a name."""
    if not isinstance(value, str) or not 1 <= len(value) <= MOST_LETTERS:
        return False
    return value not in KEPT_WORDS and all([sign in LETTERS for sign in value])


def is_share(value):
    """Whether any value is a share: a pair (p, q) in lowest terms with q from 1 on."""
    if not isinstance(value, tuple) or len(value) != 2:
        return False
    p, q = value
    return is_int(p) and is_int(q) and q >= 1 and gcd(p, q) == 1


def common(*numbers):
    """The greatest common divisor, which is 0 for zeros alone and without numbers."""
    result = 0
    for number in numbers:
        result = gcd(result, number)
    return result


def multiple(*numbers):
    """The least common multiple, which is 0 if one of the numbers is 0, and 1 without numbers."""
    result = 1
    for number in numbers:
        result = lcm(result, number)
    return result


def divides(one, other):
    """Whether one integer divides another one; 0 divides only 0."""
    if one == 0:
        return other == 0
    return other % one == 0


def stripped(number, base):
    """An integer from 0 on with all primes of the base struck out; 0 stays."""
    if number == 0:
        return 0
    rest = number
    part = gcd(rest, base)
    while part > 1:
        rest = rest // part
        # A prime that is still left stands in this part too; its square takes out twice as many at once.
        part = gcd(rest, part * part)
    return rest


def radical(number):
    """The product of the different primes of an integer from 1 to 1000000."""
    if not is_between(number, 1, MOST_RADICAL):
        raise InvalidNumber(number)
    result = 1
    rest = number
    prime = 2
    while prime * prime <= rest:
        if rest % prime == 0:
            result = result * prime
            rest = stripped(rest, prime)
        prime += 1
    return result * rest


def share(p, q=1):
    """The share of p / q in lowest terms."""
    if not is_int(q) or q < 1:
        raise InvalidNumber(q)
    part = gcd(p, q)
    return (p // part, q // part)


def sum_of_shares(x, y):
    """The sum of two shares."""
    return share(x[0] * y[1] + y[0] * x[1], x[1] * y[1])


def product_of_shares(x, y):
    """The product of two shares."""
    return share(x[0] * y[0], x[1] * y[1])


def inverse_modulo(number, modulus):
    """The integer from 0 to modulus - 1 whose product with the number leaves 1, for numbers without common divisors."""
    before, now = modulus, number % modulus
    far, near = 0, 1
    while now != 0:
        times = before // now
        before, now = now, before - times * now
        far, near = near, far - times * near
    return far % modulus


def read_digits(text, most):
    """The integer that a text writes with at most so many digits, without a sign and leading zeros, or None."""
    if not 1 <= len(text) <= most or not all([sign in DIGITS for sign in text]):
        return None
    if text.startswith("0") and text != "0":
        return None
    return int(text)


def read_integer(text, most):
    """The same for an integer that may be negative and then has a sign; -0 is none."""
    if not text.startswith("-"):
        return read_digits(text, most)
    number = read_digits(text[1:], most)
    return None if number is None or number == 0 else -number


def written(number):
    """The decimal text of an integer of any length, as Python itself refuses those of thousands of digits."""
    if number < 0:
        return "-" + written(-number)
    powers = [10**64]
    while powers[-1] <= number:
        powers.append(powers[-1] * powers[-1])
    return written_below(number, powers)


def written_below(number, powers):
    """The decimal text of an integer below the last one of the powers 10^64, 10^128, 10^256 and so on."""
    if len(powers) == 1:
        return str(number)
    lower = powers[:-1]
    high, low = divmod(number, lower[-1])
    if high == 0:
        return written_below(low, lower)
    return written_below(high, lower) + written_below(low, lower).zfill(32 << len(lower))


def written_share(p, q):
    """The text of p / q as it is given: without q where q is 1."""
    return written(p) if q == 1 else written(p) + "/" + written(q)
