"""Choosing: at each turn and standing one of several options is taken, so that the long run is greatest.

A turn is a pair (options, bottom). The options are told for each standing by a list; each of them
is a pair (chances, gain) of tops over the bottom. Turns come one behind the other, and the first
one comes behind the last one. Picks tell for each turn and standing the index of an option; values
and weights tell for each turn and standing a fraction.
"""

from wonbyturns.base.chains import home_chances_of, homes_of, shares_of, values_of
from wonbyturns.base.pairs import LEAST_WIDE, are_below, common_bottom, minus, lowest, sum_of, tops_over
from wonbyturns.base.papers import moved_weights, shorter_weights, weights_for
from wonbyturns.base.steps import chances_over, dot, gain_over, joined, vector_behind, vector_led_back
from wonbyturns.base.words import LEAST_LONG

# The amounts of homes are rounded to multiples of these parts of 1, to make weights shorter.
UNITS = (1, 16, 256, 65536)


def turn_of(alternatives):
    """The turn with these lots of moves for each standing."""
    size = len(alternatives)
    bottom = common_bottom([move[2] for lots in alternatives for moves in lots for move in moves])
    options = [
        [(chances_over(moves, size, bottom), gain_over(moves, bottom)) for moves in lots]
        for lots in alternatives
    ]
    return options, bottom


def picked_step(turn, picks):
    """The step of a turn at which these options are taken."""
    options, bottom = turn
    taken = [own[at] for own, at in zip(options, picks)]
    return [row for row, _ in taken], [gain for _, gain in taken], bottom


def best_chosen(turns):
    """Picks with the greatest long runs from everywhere, and their values and weights."""
    # A change that is better by what stands behind, by values first and then by weights with the
    # mean 0 in each home, makes the gains of all plays greater that are long enough, and none
    # less. So no picks come twice, and there is an end.
    picks = [[0 for _ in options] for options, _ in turns]
    while True:
        values, weights = _valued(turns, picks)
        better = [_better_picks(turns, picks, values, weights, at) for at in range(len(turns))]
        if better == picks:
            return picks, values, weights
        picks = better


def best_paper(turns):
    """Picks with the greatest long runs from everywhere, and values and weights by which nothing is greater."""
    picks, values, weights = best_chosen(turns)
    steps = [picked_step(turn, own) for turn, own in zip(turns, picks)]
    sums = [(top * len(turns), bottom) for top, bottom in values[0]]
    firsts = _first_weights(_whole(steps), sums, weights[0])
    tables = [raised_weights(turns, values, _weights_by_turns(steps, values, first)) for first in firsts]
    for limit in (LEAST_WIDE, LEAST_LONG):
        for table in tables:
            if table and are_below([one for vector in table for one in vector], limit):
                return picks, values, table
    return picks, values, raised_weights(turns, values, weights)


def raised_weights(turns, values, weights):
    """The weights and so many times the values that no option is better; nothing if there is no such number."""
    times = 0
    for at in range(len(turns)):
        for falls, needs in differences(turns, values, weights, at):
            for fall, need in zip(falls, needs):
                if need[0] > 0:
                    if fall[0] == 0:
                        return []
                    times = max(times, -(-(need[0] * fall[1]) // (need[1] * fall[0])))
    return [
        tuple([sum_of([weight, (times * value[0], value[1])]) for weight, value in zip(own, runs)])
        for own, runs in zip(weights, values)
    ]


def differences(turns, values, weights, at):
    """For each standing at a turn how much the value falls by each option, and how much is missing in the weights."""
    options, bottom = turns[at]
    tops, unit = _tops_behind(values, at)
    others, factor = _tops_behind(weights, at)
    found = []
    for value, weight, own in zip(values[at], weights[at], options):
        sums = sum_of([value, weight])
        falls = [minus(value, (dot(row, tops), bottom * unit)) for row, _ in own]
        needs = [minus((gain * factor + dot(row, others), bottom * factor), sums) for row, gain in own]
        found.append((falls, needs))
    return found


def _whole(steps):
    """The step of all turns, one behind the other."""
    whole = steps[0]
    for step in steps[1:]:
        whole = joined(whole, step)
    return whole


def _valued(turns, picks):
    """The values of picks, and weights with the mean 0 over all turns in each home."""
    steps = [picked_step(turn, own) for turn, own in zip(turns, picks)]
    whole = _whole(steps)
    homes = homes_of(whole)
    sums = values_of(whole)
    values = _values_by_turns(steps, [lowest(top, bottom * len(turns)) for top, bottom in sums])
    plain = weights_for(whole, sums, [home[0] for home in homes])
    amounts = _amounts(steps, whole, homes, _weights_by_turns(steps, values, plain))
    first = moved_weights(plain, home_chances_of(whole, homes), amounts)
    return values, _weights_by_turns(steps, values, first)


def _values_by_turns(steps, runs):
    """The values at all turns that come of the runs from the first one."""
    found = []
    behind = runs
    for step in steps[::-1]:
        behind = vector_behind(step, behind)
        found.append(behind)
    return found[::-1]


def _weights_by_turns(steps, values, first):
    """The weights at all turns that come of those at the first one, which stand behind the last one, too."""
    found = []
    behind = first
    for step, own in list(zip(steps, values))[::-1]:
        behind = tuple([minus(back, value) for back, value in zip(vector_led_back(step, behind), own)])
        found.append(behind)
    return found[::-1]


def _amounts(steps, whole, homes, weights):
    """For each home the amount which the weights lack to have the mean 0 over all turns."""
    sums = [(0, 1) for _ in weights[0]]
    for step, own in list(zip(steps, weights))[::-1]:
        sums = [sum_of(both) for both in zip(own, vector_behind(step, sums))]
    amounts = []
    for home in homes:
        tops, bottom = shares_of(whole, home)
        total = sum_of([(top * sums[one][0], sums[one][1]) for top, one in zip(tops, home)])
        amounts.append(lowest(-total[0], total[1] * bottom * len(steps)))
    return amounts


def _better_picks(turns, picks, values, weights, at):
    """The picks for a turn, with the best other ones where such are better by the values and weights behind."""
    tops = _tops_behind(values, at)[0]
    others, factor = _tops_behind(weights, at)
    better = []
    for own, pick in zip(turns[at][0], picks[at]):
        found = [(dot(row, tops), gain * factor + dot(row, others)) for row, gain in own]
        best = max(found)
        better.append(pick if found[pick] == best else found.index(best))
    return better


def _tops_behind(vectors, at):
    """The tops of the vector of the turn behind this one, and their common bottom."""
    behind = vectors[(at + 1) % len(vectors)]
    unit = common_bottom(behind)
    return tops_over(behind, unit), unit


def _first_weights(whole, sums, weights):
    """Some weights at the first turn for these gains of a round, of which some are shorter than others."""
    homes = homes_of(whole)
    chances = home_chances_of(whole, homes)
    plain = weights_for(whole, sums, [home[0] for home in homes])
    found = [plain]
    if not are_below(plain, LEAST_WIDE):
        found.append(shorter_weights(plain, homes, chances))
    if len(homes) == 1:
        return found
    amounts = [minus(weights[home[0]], weights[homes[0][0]]) for home in homes]
    for unit in UNITS:
        rounded = [lowest(top * unit // bottom, unit) for top, bottom in amounts]
        found.append(moved_weights(plain, chances, rounded))
    return found + [moved_weights(plain, chances, amounts)]
