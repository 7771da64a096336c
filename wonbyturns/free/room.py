"""Weights with room: where the weights of free choosing need not be exact, they are rounded to short ones.

Turns, options, values and weights are those of module choosing.
"""

from wonbyturns.base.pairs import are_below, minus, lowest, sum_of
from wonbyturns.free.choosing import best_chosen, differences, raised_weights

# What is not exact gets room by a bonus, which is 1 at first, then 1/16, and then the square of
# the one before: so many of them are tried.
MAX_BONUSES = 7
UNIT = 16


def roomy_weights(turn, values, weights, limit):
    """Weights below a limit by which no option of a turn is better than the values, or None if none are found."""
    lasting = _lasting(turn, _exact_options(turn, values, weights))
    unit = 1
    for _ in range(MAX_BONUSES):
        roomy = _weights_with_bonus(turn, values, lasting, unit)
        if roomy:
            rounded = _rounded(weights, roomy, lasting, unit)
            if are_below(rounded, limit) and raised_weights([turn], [values], [rounded]) == [rounded]:
                return rounded
        unit = max(UNIT, unit * unit)
    return None


def _exact_options(turn, values, weights):
    """For each standing the indices of the options for which nothing falls, and nothing is missing."""
    return [
        [index for index in range(len(falls)) if falls[index][0] == 0 and needs[index][0] == 0]
        for falls, needs in differences([turn], [values], [weights], 0)
    ]


def _lasting(turn, kept):
    """For each standing those of these options that can be taken for ever, and the least standing that comes there.

    Such options stay among standings that come to each other by them, and the gains of these are
    just the values: so by any weights these options are exact.
    """
    while True:
        lots = _lots_of(turn, kept)
        left = [
            [index for index in own if all([lots[to] == lot for to in _near(turn, standing, index)])]
            for standing, (own, lot) in enumerate(zip(kept, lots))
        ]
        if left == kept:
            return [(own, lot) for own, lot in zip(kept, lots)]
        kept = left


def _near(turn, standing, index):
    """The standings that can stand behind an option."""
    return [to for to, top in enumerate(turn[0][standing][index][0]) if top > 0]


def _lots_of(turn, kept):
    """For each standing the least one of those that come to it and to which it comes by these options."""
    size = range(len(kept))
    reached = [
        [to == one or any([to in _near(turn, one, index) for index in kept[one]]) for to in size]
        for one in size
    ]
    for middle in size:
        reached = [[row[to] or (row[middle] and reached[middle][to]) for to in size] for row in reached]
    return [min([to for to in size if reached[one][to] and reached[to][one]]) for one in size]


def _weights_with_bonus(turn, values, lasting, unit):
    """Weights for the same values, if all options that do not last gain more by a part of 1, or nothing."""
    options, bottom = turn
    more = []
    for own, (kept, _) in zip(options, lasting):
        gains = [gain * unit + (0 if index in kept else bottom) for index, (_, gain) in enumerate(own)]
        more.append([([top * unit for top in row], gain) for (row, _), gain in zip(own, gains)])
    changed = (more, bottom * unit)
    _, found, weights = best_chosen([changed])
    return raised_weights([changed], found, weights)[0] if found == [values] else []


def _rounded(weights, roomy, lasting, unit):
    """Weights with room, rounded to multiples of a part of 1, but exact among the options that last."""
    rounded = [lowest((2 * top * unit + bottom) // (2 * bottom), unit) for top, bottom in roomy]
    return tuple([
        sum_of([rounded[lot], minus(weight, weights[lot])]) if kept else rounded[standing]
        for standing, (weight, (kept, lot)) in enumerate(zip(weights, lasting))
    ])
