"""Chains with gains: their homes, and what they come to in the long run.

A chain takes the same step (module steps) again and again.
"""

from wonbyturns.base.linear import solution
from wonbyturns.base.pairs import lowest, sum_of
from wonbyturns.base.steps import dot


def homes_of(step):
    """The homes of a chain, ascending."""
    reached = _reached(step[0])
    size = range(len(reached))
    behind = [tuple([to for to in size if reached[one] >> to & 1]) for one in size]
    return sorted({behind[one] for one in size if all([behind[to] == behind[one] for to in behind[one]])})


def shares_of(step, home):
    """The tops of the shares of the standings of a home, and their common bottom."""
    chances, _, bottom = step
    stays = [[chances[one][to] - (bottom if one == to else 0) for one in home] + [0] for to in home[1:]]
    return solution([[1] * (len(home) + 1)] + stays)


def home_chances_of(step, homes):
    """For each standing the list of the chances to come into the homes, in lowest terms."""
    chances = step[0]
    size = range(len(chances))
    away = [one for one in size if not any([one in home for home in homes])]
    found = [[(1, 1) if one in home else (0, 1) for home in homes] for one in size]
    if not away:
        return found
    for index, home in enumerate(homes):
        tops, common = balanced(step, away, [sum([chances[one][to] for to in home]) for one in away])
        for one, top in zip(away, tops):
            found[one][index] = lowest(top, common)
    return found


def balanced(step, away, gains):
    """The tops and the bottom of numbers for some standings: each is its gain and the mean of those behind.

    The gains are told by their tops. The standings that are not among these count as 0, and the
    chain comes to one of those from everywhere.
    """
    chances, _, bottom = step
    rows = [[(bottom if one == to else 0) - chances[one][to] for to in away] for one in away]
    return solution([row + [gain] for row, gain in zip(rows, gains)])


def values_of(step):
    """What a step gains in the long run from each standing, in lowest terms."""
    homes = homes_of(step)
    values = home_values_of(step, homes)
    if len(homes) == 1:
        return [values[0] for _ in step[1]]
    return [mean_of(row, values) for row in home_chances_of(step, homes)]


def home_values_of(step, homes):
    """What a step gains in the long run in each home, in lowest terms."""
    _, gains, bottom = step
    values = []
    for home in homes:
        tops, common = shares_of(step, home)
        values.append(lowest(dot(tops, [gains[one] for one in home]), bottom * common))
    return values


def mean_of(chances, values):
    """The sum of the products of chances and values, in lowest terms."""
    return sum_of([(by[0] * value[0], by[1] * value[1]) for by, value in zip(chances, values)])


def _reached(chances):
    """For each standing those to which it comes, as the bits of an integer."""
    size = range(len(chances))
    reached = [sum([1 << to for to in size if row[to] > 0]) for row in chances]
    for middle in size:
        for one in size:
            if reached[one] >> middle & 1:
                reached[one] = reached[one] | reached[middle]
    return reached
