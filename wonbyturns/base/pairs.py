"""Arithmetic with pairs (top, bottom) of integers of any length, and the texts of fractions."""

from math import gcd, lcm

from wonbyturns.base.words import LEAST_LONG, MAX_DIGITS, is_fraction, is_integer
from wonbyturns.errors import TooMany

# A result of which several are correct has at most 60 digits, wherever there is such a one.
LEAST_WIDE = 10 ** 60


def lowest(top, bottom):
    """The pair in lowest terms with a bottom above 0."""
    common = gcd(top, bottom)
    if bottom < 0:
        common = -common
    return top // common, bottom // common


def sum_of(pairs):
    """The sum in lowest terms of pairs with bottoms above 0."""
    top, bottom = 0, 1
    for one in pairs:
        common = lcm(bottom, one[1])
        top = top * (common // bottom) + one[0] * (common // one[1])
        bottom = common
    return lowest(top, bottom)


def minus(one, other):
    """The difference of two fractions, in lowest terms."""
    return sum_of([one, (-other[0], other[1])])


def are_at_most(some, others):
    """Whether no fraction is above that at the same place of the others."""
    return all([one[0] * other[1] <= other[0] * one[1] for one, other in zip(some, others)])


def short(pair):
    """The pair, unless one of its integers is too long."""
    if not is_integer(pair[0]) or not is_integer(pair[1]):
        raise TooMany(MAX_DIGITS)
    return pair


def are_below(pairs, limit):
    """Whether all integers of the pairs are between the limit and its negative."""
    return all([abs(top) < limit and bottom < limit for top, bottom in pairs])


def place(pair):
    """An integer that is the greater, the greater the fraction is."""
    # Unequal fractions are more than 1 / LEAST_LONG ** 2 apart, as both bottoms are below
    # LEAST_LONG; so they are more than 1 apart here, and rounding down keeps their order.
    return pair[0] * LEAST_LONG * LEAST_LONG // pair[1]


def common_bottom(pairs):
    """The least integer that is a multiple of all bottoms."""
    bottom = 1
    for one in pairs:
        bottom = lcm(bottom, one[1])
    return bottom


def top_over(pair, bottom):
    """The top of a pair, written with a bottom that is a multiple of its own."""
    return pair[0] * (bottom // pair[1])


def tops_over(pairs, bottom):
    """The tops of pairs, written with such a bottom."""
    return [top_over(one, bottom) for one in pairs]


def short_vector(tops, bottom):
    """The tuple of the fractions with these tops and this bottom, unless one is too long."""
    return tuple([short(lowest(top, bottom)) for top in tops])


def text_of(pair):
    """The text of a fraction, which has no bottom for an integer."""
    top, bottom = pair
    return str(top) if bottom == 1 else f"{top}/{bottom}"


def full_text(pair):
    """The text of a fraction, always with its bottom."""
    return f"{pair[0]}/{pair[1]}"


def pair_read(text):
    """The fraction with this text, or None if there is none."""
    if not isinstance(text, str):
        return None
    parts = text.split("/")
    if not all([_are_digits(part.removeprefix("-")) for part in parts]):
        return None
    numbers = [int(part) for part in parts] + [1]
    pair = numbers[0], numbers[1]
    # Writing it again rules out what only looks alike, such as 03, -0, 3/1 and 1/2/3.
    return pair if is_fraction(pair) and text_of(pair) == text else None


def _are_digits(text):
    """Whether the text is made of at least one digit alone, and of no more than an integer has."""
    return len(text) <= MAX_DIGITS and text.isascii() and text.isdigit()
