"""Ratios: exact numbers as pairs of integers in lowest terms ([1.2], [1.3])."""

from math import gcd

from kerbside.errors import BadForm, NotAllowed

MAX_TEXT = 60
ZERO = (0, 1)
ONE = (1, 1)
DIGITS = "0123456789"
CHUNK_DIGITS = 64
CHUNK = 10 ** 64


def ratio(n, d):
    """Returns the ratio of n to d."""
    if d == 0:
        raise NotAllowed("a ratio needs a denominator other than 0")
    shared = gcd(n, d)
    if d < 0:
        shared = -shared
    return n // shared, d // shared


def is_ratio(pair):
    """Tells whether the pair is in lowest terms with a denominator from 1 on."""
    n, d = pair
    return d >= 1 and gcd(n, d) == 1


def of_int(n):
    """Returns the ratio of an integer."""
    return n, 1


def plus(first, second):
    """Returns the sum."""
    return ratio(first[0] * second[1] + second[0] * first[1], first[1] * second[1])


def minus(first, second):
    """Returns the difference."""
    return ratio(first[0] * second[1] - second[0] * first[1], first[1] * second[1])


def times(first, second):
    """Returns the product."""
    return ratio(first[0] * second[0], first[1] * second[1])


def over(first, second):
    """Returns the quotient."""
    if second[0] == 0:
        raise NotAllowed("nothing is divided by 0")
    return ratio(first[0] * second[1], first[1] * second[0])


def negated(first):
    """Returns the ratio with the other sign."""
    return -first[0], first[1]


def sign_of(first):
    """Returns -1, 0 or 1: the sign of the ratio."""
    n = first[0]
    return (n > 0) - (n < 0)


def compare(first, second):
    """Returns -1, 0 or 1, as the first ratio is less than, equal to or greater than the second one."""
    left = first[0] * second[1]
    right = second[0] * first[1]
    return (left > right) - (left < right)


def floor_of(first):
    """Returns the greatest integer that is not greater than the ratio."""
    return first[0] // first[1]


def integer_text(n):
    """Returns an integer in decimal digits."""
    if n < 0:
        return "-" + integer_text(-n)
    # Python refuses to write integers of more than 4300 digits at once, so this is done in parts.
    parts = []
    while n >= CHUNK:
        n, low = divmod(n, CHUNK)
        parts.append(str(low).zfill(CHUNK_DIGITS))
    parts.append(str(n))
    return "".join(reversed(parts))


def ratio_text(first):
    """Returns the text of the ratio."""
    n, d = first
    if d == 1:
        return integer_text(n)
    return integer_text(n) + "/" + integer_text(d)


def are_digits(text):
    """Tells whether the text consists of decimal digits, at least one."""
    return text != "" and all(letter in DIGITS for letter in text)


def read_number(text, most):
    """Returns the integer of a text of decimal digits, at most so many, without needless zeros."""
    if not are_digits(text) or len(text) > most or (text[0] == "0" and len(text) > 1):
        raise BadForm("a number from 0 on has decimal digits, not too many, and no needless zeros")
    return int(text)


def read_ratio(text):
    """Returns the ratio of the text."""
    if len(text) > MAX_TEXT:
        raise BadForm("the text of a ratio is too long")
    top, slash, bottom = text.partition("/")
    if slash == "":
        bottom = "1"
    if not are_digits(top.removeprefix("-")) or not are_digits(bottom):
        raise BadForm("the text of a ratio has digits, perhaps a sign in front and a stroke between them")
    pair = (int(top), int(bottom))
    # Every ratio has one text, so what is written in another way is no text of it.
    if not is_ratio(pair) or ratio_text(pair) != text:
        raise BadForm("a ratio is written in lowest terms, without needless signs and zeros")
    return pair
