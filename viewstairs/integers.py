"""Integers: which things are some, how they are written, and fractions of them."""

from math import gcd

from viewstairs.errors import OutOfPlace
from viewstairs.tuples import is_tuple

_GROUP_DIGITS = 60
_GROUP = 10 ** 60


def is_integer(thing):
    """Whether a thing is an integer; True and False are none."""
    return isinstance(thing, int) and not isinstance(thing, bool)


def is_within(thing, least, most):
    """Whether a thing is an integer from the least to the most one."""
    return is_integer(thing) and least <= thing <= most


def are_integers(thing, many):
    """Whether a thing is a tuple of so many integers."""
    return is_tuple(thing, many, many) and all([is_integer(part) for part in thing])


def need_integer(thing):
    """Refuse what is no integer."""
    if not is_integer(thing):
        raise OutOfPlace("an integer is asked for")


def need_within(thing, least, most):
    """Refuse what is no integer from the least to the most one."""
    if not is_within(thing, least, most):
        raise OutOfPlace("an integer within the told bounds is asked for")


def decimal(number):
    """An integer in decimal.

    What is told may have more digits than Python's own str is willing to write, so it is written in groups.
    """
    rest = abs(number)
    groups = []
    while rest >= _GROUP:
        rest, low = divmod(rest, _GROUP)
        groups.append(str(low).zfill(_GROUP_DIGITS))
    groups.append(str(rest))
    if number < 0:
        groups.append("-")
    return "".join(groups[::-1])


def fraction(part, whole):
    """How much of a whole a part is, as a pair of integers without a common divisor."""
    divisor = gcd(part, whole)
    return part // divisor, whole // divisor
