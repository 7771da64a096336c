"""Papers which show what a chain gains in the long run."""

from wonbyturns.base.chains import balanced, home_chances_of, homes_of, mean_of, values_of
from wonbyturns.base.pairs import LEAST_WIDE, are_below, common_bottom, lowest, short, sum_of, top_over
from wonbyturns.base.steps import vector_behind, vector_led_back
from wonbyturns.base.words import LEAST_LONG, is_vector

# How many ways to move the weights are tried.
MAX_TRIED = 1000


def is_paper_of(step, value):
    """Whether the value is a pair of values and weights which show what the chain gains."""
    size = len(step[1])
    if not isinstance(value, tuple) or len(value) != 2 or not all([is_vector(one, size) for one in value]):
        return False
    values, weights = value
    sums = tuple([sum_of(both) for both in zip(values, weights)])
    return vector_behind(step, values) == values and vector_led_back(step, weights) == sums


def paper_of(step):
    """A pair of values and weights which show what the chain gains, with short weights."""
    homes = homes_of(step)
    values = values_of(step)
    weights = weights_for(step, values, [home[0] for home in homes])
    if not are_below(weights, LEAST_WIDE):
        weights = shorter_weights(weights, homes, home_chances_of(step, homes))
    return tuple([short(one) for one in values]), tuple([short(one) for one in weights])


def weights_for(step, values, fixed):
    """The weights for these values which are 0 at one fixed standing of each home."""
    _, gains, bottom = step
    common = common_bottom(values)
    away = [one for one in range(len(gains)) if one not in fixed]
    weights = [(0, 1)] * len(gains)
    if not away:
        return weights
    rests = [gains[one] * common - bottom * top_over(values[one], common) for one in away]
    tops, factor = balanced(step, away, rests)
    for one, top in zip(away, tops):
        weights[one] = lowest(top, factor * common)
    return weights


def shorter_weights(weights, homes, chances):
    """Other weights for the same values, with short numbers if such are found."""
    # All weights for the values come of these by adding one number to each home, and the mean
    # of those numbers to the standings from which the chain comes into the homes.
    moved = [moved_weights(weights, chances, amounts) for amounts in _choices(weights, homes)]
    for limit in (LEAST_WIDE, LEAST_LONG):
        for one in moved:
            if are_below(one, limit):
                return one
    return weights


def moved_weights(weights, chances, amounts):
    """The weights with an amount for each home added."""
    return [sum_of([weight, mean_of(row, amounts)]) for weight, row in zip(weights, chances)]


def _choices(weights, homes):
    """Lists of amounts for the homes that can make the weights shorter."""
    choices = [[]]
    for home in homes:
        # The amount of the only home is added at all standings, and else at those of the home.
        among = weights if len(homes) == 1 else [weights[one] for one in home]
        amounts = []
        for weight in among:
            amount = (-weight[0], weight[1])
            amounts = amounts + [amount, _centred(among, amount)]
        choices = [choice + [amount] for choice in choices for amount in amounts][:MAX_TRIED]
    return choices


def _centred(weights, amount):
    """The amount and such an integer that the longest tops of the weights become short."""
    moved = [sum_of([weight, amount]) for weight in weights]
    low = max([-((LEAST_WIDE - 1 + top) // bottom) for top, bottom in moved])
    high = min([(LEAST_WIDE - 1 - top) // bottom for top, bottom in moved])
    return sum_of([amount, ((low + high) // 2, 1)])
