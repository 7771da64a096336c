"""The long run by lot of two games, as a quotient of two polynomials."""

from wonbyturns.above.totals import common_steps
from wonbyturns.base.linear import solution
from wonbyturns.base.steps import dot
from wonbyturns.lots.polynomials import common_divisor, content, exact_quotient


def lowest_quotient(house, first, second):
    """Two polynomials in the chance of the first game without a common divisor; the lower one is above 0."""
    steps, bottom = common_steps(house)
    (chances, gains), (others, more) = steps[first], steps[second]
    size = range(house.size)
    # Coefficients (a, b) of a + b p: the chances that stay behind a turn sum to what comes in.
    gained = [(by, own - by) for own, by in zip(gains, more)]
    stays = [
        [(others[one][to] - (bottom if one == to else 0), chances[one][to] - others[one][to]) for one in size]
        for to in size[1:]
    ]
    bits = _bits_for([[(1, 0) for _ in size]] + stays + [gained])
    # With so great a p, the determinants of the equations tell all their coefficients at once.
    tops, lower = solution([[1 for _ in range(house.size + 1)]] + [_at_power(row, bits) + [0] for row in stays])
    upper = dot(tops, _at_power(gained, bits))
    return _in_lowest_terms(_numbers_in(upper, bits), tuple([bottom * one for one in _numbers_in(lower, bits)]))


def _bits_for(rows):
    """So many bits that each coefficient of a determinant of such rows fits, with its sign."""
    bound = 1
    for row in rows:
        bound = bound * max(1, sum([abs(one) + abs(by) for one, by in row]))
    return bound.bit_length() + 2


def _at_power(row, bits):
    """The values of a + b p for the power of 2 with this exponent."""
    return [one + (by << bits) for one, by in row]


def _numbers_in(number, bits):
    """The coefficients, with signs, which a polynomial has if this is its value at the power of 2."""
    unit = 1 << bits
    found = []
    while number != 0:
        last = number & (unit - 1)
        if last >= unit // 2:
            last = last - unit
        found.append(last)
        number = (number - last) >> bits
    return tuple(found)


def _in_lowest_terms(upper, lower):
    """Two polynomials divided by all that they have in common; the lower one is above 0 at 0."""
    if not upper:
        return (), (1,)
    common = common_divisor(upper, lower)
    upper, lower = exact_quotient(upper, common), exact_quotient(lower, common)
    factor = content(upper + lower)
    if lower[0] < 0:
        factor = -factor
    return tuple([number // factor for number in upper]), tuple([number // factor for number in lower])
