"""The long run by lot of two games, as a quotient of two polynomials.

Pairs (a, b) stand here for a + b p, with the chance p of the first game.
"""

from wonbyturns.base.linear import solution
from wonbyturns.base.pairs import common_bottom
from wonbyturns.base.steps import chances_over, dot, gain_over
from wonbyturns.lots.polynomials import common_divisor, content, exact_quotient


def lowest_quotient(house, first, second):
    """Two polynomials in the chance of the first game without a common divisor; the lower one is above 0."""
    size = house.size
    columns = [_column(house[first][one], house[second][one], size) for one in range(size)]
    bottoms = [bottom for _, _, bottom in columns]
    gained = [gain for _, gain, _ in columns]
    # The shares of the standings, each divided by its bottom, are what is solved for: what goes
    # away from a standing by a turn is what comes to it.
    stays = [
        [
            (chances[to][0] - (bottom if one == to else 0), chances[to][1])
            for one, (chances, _, bottom) in enumerate(columns)
        ]
        for to in range(1, size)
    ]
    bits = _bits_for([[(bottom, 0) for bottom in bottoms]] + stays + [gained])
    # With so great a p, the determinants of the equations tell all their coefficients at once.
    tops, lower = solution([bottoms + [1]] + [_at_power(row, bits) + [0] for row in stays])
    upper = dot(tops, _at_power(gained, bits))
    return _in_lowest_terms(_numbers_in(upper, bits), _numbers_in(lower, bits))


def _column(moves, others, size):
    """The tops of the chances to come to each standing, and of the mean gain, and their bottom."""
    bottom = common_bottom([move[2] for move in moves + others])
    chances, more = chances_over(moves, size, bottom), chances_over(others, size, bottom)
    gain = _between(gain_over(moves, bottom), gain_over(others, bottom))
    return [_between(one, other) for one, other in zip(chances, more)], gain, bottom


def _between(one, other):
    """What is the first number for p = 1, and the second one for p = 0."""
    return other, one - other


def _bits_for(rows):
    """So many bits that each coefficient of a determinant of such rows fits, with its sign."""
    bound = 1
    for row in rows:
        bound = bound * max(1, sum([abs(one) + abs(by) for one, by in row]))
    return bound.bit_length() + 2


def _at_power(row, bits):
    """The values of a + b p for the power of 2 with this exponent."""
    return [one + (by << bits) for one, by in row]


def _numbers_in(number, bits):
    """The coefficients, with signs, which a polynomial has if this is its value at the power of 2."""
    unit = 1 << bits
    found = []
    while number != 0:
        last = number & (unit - 1)
        if last >= unit // 2:
            last = last - unit
        found.append(last)
        number = (number - last) >> bits
    return tuple(found)


def _in_lowest_terms(upper, lower):
    """Two polynomials divided by all that they have in common; the lower one is above 0 at 0."""
    if not upper:
        return (), (1,)
    common = common_divisor(upper, lower)
    upper, lower = exact_quotient(upper, common), exact_quotient(lower, common)
    factor = content(upper + lower)
    if lower[0] < 0:
        factor = -factor
    return tuple([number // factor for number in upper]), tuple([number // factor for number in lower])
