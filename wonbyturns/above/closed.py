"""Sets of weights that are closed for a bound.

As in module totals, vectors are tuples of integers, the tops over a common unit.
"""

from wonbyturns.above.totals import common_steps, is_covered, led_back_over, power_of
from wonbyturns.base.pairs import LEAST_WIDE, are_below, lowest, short
from wonbyturns.errors import TooMany

# How many vectors are gathered before those that lie below others are left away: for the first
# unit, and for each other one.
MAX_GATHERED = 1000
MAX_TRIED = 300

# Short weights are looked for over powers of this unit, with exponents below the second number.
UNIT = 16
MAX_EXPONENT = 12


def closed_weights(house, bound, length, most):
    """At most so many vectors, ascending, that are closed for the bound, at least the ceiling of this length."""
    # Over the first unit all totals of shorter rows are integers, and so is the ceiling: these
    # totals, less the ceiling for each turn, are closed for it.
    first = length * power_of(common_steps(house)[1], length)
    plain = _weights_over(house, bound, first, MAX_GATHERED)
    if _are_short(plain, most):
        return plain
    for exponent in range(MAX_EXPONENT):
        weights = _weights_over(house, bound, power_of(UNIT, exponent), MAX_TRIED)
        if _are_short(weights, most):
            return weights
    if not 1 <= len(plain) <= most:
        raise TooMany(most)
    return tuple([tuple([short(one) for one in vector]) for vector in plain])


def _are_short(weights, most):
    """Whether these are some vectors, not too many, with short numbers."""
    return 1 <= len(weights) <= most and all([are_below(vector, LEAST_WIDE) for vector in weights])


def _weights_over(house, bound, unit, most):
    """Vectors that are closed for the bound, ascending; no vectors if more than so many are gathered."""
    vectors = [tuple([lowest(top, unit) for top in vector]) for vector in _closed_vectors(house, bound, unit, most)]
    return tuple(sorted(vectors))


def _closed_vectors(house, bound, unit, most):
    """The same as tops over the unit; none of them lies below another one."""
    steps, bottom = common_steps(house)
    zero = tuple([0] * house.size)
    found = [zero]
    fresh = [zero]
    while fresh:
        behind = {}
        for vector in fresh:
            for name in steps:
                behind[_lowered(led_back_over(steps[name], unit, vector), bottom, bound, unit)] = True
        fresh = []
        for vector in sorted(behind, key=sum, reverse=True):
            if not is_covered(vector, found):
                found.append(vector)
                fresh.append(vector)
        if len(found) > most:
            return []
    return [one for one in found if not is_covered(one, [other for other in found if other != one])]


def _lowered(tops, bottom, bound, unit):
    """A vector that is led back less the bound, each entry raised to an integer over the unit."""
    # What is raised stays closed, as it is only compared with what is above it.
    whole = bottom * bound[1]
    amount = bottom * bound[0] * unit
    return tuple([-((amount - top * bound[1]) // whole) for top in tops])
