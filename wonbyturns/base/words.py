"""What integers, words, fractions and vectors are."""

from math import gcd

from wonbyturns.errors import InvalidNumber

MAX_LETTERS = 8
MAX_DIGITS = 300

# The least integer with more than MAX_DIGITS digits. Integers are compared with it, for
# Python writes out only integers up to a certain length, and results can be far longer.
LEAST_LONG = (10 ** 60) ** 5


def is_integer(value):
    """Whether the value is an integer of at most MAX_DIGITS digits."""
    if not isinstance(value, int) or isinstance(value, bool):
        return False
    return -LEAST_LONG < value < LEAST_LONG


def is_word(value):
    """Whether the value is a string of one to MAX_LETTERS letters from a to z."""
    if not isinstance(value, str) or not 1 <= len(value) <= MAX_LETTERS:
        return False
    return all(["a" <= letter <= "z" for letter in value])


def is_fraction(value):
    """Whether the value is a pair of integers in lowest terms, the second one at least 1."""
    if not isinstance(value, tuple) or len(value) != 2:
        return False
    top, bottom = value
    if not is_integer(top) or not is_integer(bottom):
        return False
    return bottom >= 1 and gcd(top, bottom) == 1


def is_chance(value):
    """Whether the value is a fraction from 0 to 1."""
    return is_fraction(value) and 0 <= value[0] <= value[1]


def is_vector(value, size):
    """Whether the value is a tuple of so many fractions."""
    if not is_integer(size) or size < 0:
        raise InvalidNumber(size)
    if not isinstance(value, tuple) or len(value) != size:
        return False
    return all([is_fraction(one) for one in value])
