"""Polynomials: tuples of integers of any length, the coefficients, that of the power 0 first."""

from math import gcd


def trimmed(numbers):
    """The polynomial with these coefficients, of which the last ones can be 0."""
    size = len(numbers)
    while size > 0 and numbers[size - 1] == 0:
        size = size - 1
    return tuple(numbers[:size])


def times(one, other):
    """The product of two polynomials."""
    found = [0] * (len(one) + len(other))
    for index, factor in enumerate(one):
        for at, by in enumerate(other):
            found[index + at] = found[index + at] + factor * by
    return trimmed(found)


def over_power(polynomial, x):
    """The top and the bottom, above 0, of the value at a fraction."""
    top, bottom = 0, 1
    for number in polynomial[::-1]:
        top, bottom = top * x[0] + number * bottom, bottom * x[1]
    # The last step has multiplied the bottom once too often.
    return (top, bottom // x[1]) if polynomial else (0, 1)


def sign_at(polynomial, x):
    """The sign of the value at a fraction: -1, 0 or 1."""
    return _sign(over_power(polynomial, x)[0])


def slope_of(polynomial):
    """The derivative."""
    return tuple([index * number for index, number in enumerate(polynomial)])[1:]


def content(polynomial):
    """The greatest integer that divides all coefficients."""
    common = 0
    for number in polynomial:
        common = gcd(common, number)
    return common


def primitive(polynomial):
    """A polynomial that is not 0, divided by the greatest integer that divides all coefficients."""
    common = content(polynomial)
    return tuple([number // common for number in polynomial])


def common_divisor(one, other):
    """A greatest common divisor of two polynomials, of which one is not 0, without a common divisor but 1."""
    while other:
        one, other = primitive(other), _primitive_rest(one, other)
    return primitive(one)


def exact_quotient(one, divisor):
    """The polynomial that gives the first one if it is multiplied by its divisor."""
    rest = list(one)
    found = []
    while len(rest) >= len(divisor):
        factor = rest[-1] // divisor[-1]
        found.append(factor)
        shift = len(rest) - len(divisor)
        rest = [
            number - (factor * divisor[index - shift] if index >= shift else 0)
            for index, number in enumerate(rest)
        ][:-1]
    return tuple(found[::-1])


def without_repeats(polynomial):
    """A polynomial with the same roots, each of them once; the polynomial is not 0."""
    own = primitive(polynomial)
    return exact_quotient(own, common_divisor(own, slope_of(own)))


def chain_of(polynomial):
    """The chain by which the different roots of a polynomial without repeated ones are counted."""
    chain = [polynomial, slope_of(polynomial)]
    while chain[-1]:
        rest = _primitive_rest(chain[-2], chain[-1])
        chain.append(tuple([-number for number in rest]))
    return chain[:-1]


def roots_within(chain, low, high):
    """How many roots lie above the low and below the high fraction."""
    many = _changes(chain, low) - _changes(chain, high)
    # The chain counts a root at the upper end, and none at the lower one.
    return many - 1 if sign_at(chain[0], high) == 0 else many


def _primitive_rest(one, divisor):
    """What is left of a polynomial divided by another one, times a fraction above 0."""
    rest = one
    while len(rest) >= len(divisor):
        factor = rest[-1] if divisor[-1] > 0 else -rest[-1]
        shift = len(rest) - len(divisor)
        rest = trimmed([
            number * abs(divisor[-1]) - (factor * divisor[index - shift] if index >= shift else 0)
            for index, number in enumerate(rest)
        ])
    return primitive(rest) if rest else ()


def _changes(chain, x):
    """How often the sign changes along a chain at a fraction, where 0 is no sign."""
    signs = [sign for sign in [sign_at(one, x) for one in chain] if sign != 0]
    return len([sign for sign, behind in zip(signs, signs[1:]) if sign != behind])


def _sign(number):
    """The sign of a number."""
    if number == 0:
        return 0
    return 1 if number > 0 else -1
