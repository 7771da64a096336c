"""The greatest totals of rows of each length.

Vectors are here tuples of integers: their entries are tops over a common unit.
"""

from wonbyturns.base.pairs import common_bottom, lowest
from wonbyturns.base.steps import dot, game_step
from wonbyturns.errors import TooMany

# How many vectors of one length are looked through.
MAX_MET = 20000

# With how many others each of them is compared: this leaves away most of them, and ends soon.
MAX_COMPARED = 300


def common_steps(house):
    """The chances and the gains of each game by its name, as tops, and the bottom of them all."""
    steps = {name: game_step(house[name]) for name in house}
    bottom = common_bottom([(1, steps[name][2]) for name in steps])
    same = {}
    for name in steps:
        chances, gains, own = steps[name]
        factor = bottom // own
        same[name] = ([[factor * top for top in row] for row in chances], [factor * gain for gain in gains])
    return same, bottom


def greatest_totals(house, most):
    """For each length up to this one the greatest total, in lowest terms, and a row and a standing with it."""
    steps, bottom = common_steps(house)
    unit = power_of(bottom, most)
    found = []
    behind = {tuple([0] * house.size): ()}
    for _ in range(most):
        rows = behind
        behind = {}
        for vector in _with_great_sums(list(rows)):
            for name in steps:
                back = [top // bottom for top in led_back_over(steps[name], unit, vector)]
                behind[tuple(back)] = (name,) + rows[vector]
        if len(behind) > MAX_MET:
            raise TooMany(MAX_MET)
        top = max(list(behind), key=max)
        found.append((lowest(max(top), unit), behind[top], top.index(max(top))))
    return found


def led_back_over(step, unit, vector):
    """The tops of the vector that is led back, over the unit times the bottom of the step."""
    chances, gains = step
    return [gain * unit + dot(row, vector) for row, gain in zip(chances, gains)]


def is_covered(vector, others):
    """Whether the vector is nowhere more than one of the others."""
    for other in others:
        if is_nowhere_more(vector, other):
            return True
    return False


def is_nowhere_more(one, other):
    """Whether no entry is more than that of the other vector."""
    for some, more in zip(one, other):
        if some > more:
            return False
    return True


def power_of(base, exponent):
    """The power of an integer."""
    power = 1
    for _ in range(exponent):
        power = power * base
    return power


def _with_great_sums(vectors):
    """The vectors from the greatest sum on, without many of those that lie below another one."""
    kept = []
    compared = []
    for vector in sorted(vectors, key=sum, reverse=True):
        if not is_covered(vector, compared):
            kept.append(vector)
            if len(compared) < MAX_COMPARED:
                compared.append(vector)
    return kept
