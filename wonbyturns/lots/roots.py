"""The roots of a polynomial above 0 and below 1, each in a stretch of its own."""

from wonbyturns.base.pairs import LEAST_WIDE, are_below, minus, lowest
from wonbyturns.base.ratios import simplest
from wonbyturns.lots.polynomials import chain_of, roots_within, sign_at, slope_of, without_repeats

ZERO = (0, 1)
ONE = (1, 1)

# A stretch is narrow if so many of it have room up to the next one.
MANY = 8


def points_and_stretches(polynomial):
    """Simple fractions ahead of, between and behind the roots of a polynomial that is not 0, and their stretches."""
    own = without_repeats(polynomial)
    narrow = _narrow_stretches(own)
    lows = [low for low, _ in narrow] + [ONE]
    highs = [ZERO] + [high for _, high in narrow]
    points = [simplest(high, low) for high, low in zip(highs, lows)]
    stretches = []
    for index, (low, high) in enumerate(narrow):
        last = index == len(narrow) - 1
        above = points[index + 1] if last else simplest(high, points[index + 1])
        stretches.append(_exact(own, low, high) or (points[index], above))
    return points, stretches


def middle_of(low, high):
    """The fraction in the middle between two."""
    return lowest(low[0] * high[1] + high[0] * low[1], 2 * low[1] * high[1])


def _exact(polynomial, low, high):
    """The root of a narrow stretch twice, if it is a short fraction, or nothing."""
    found = low if low == high else simplest(low, high)
    return (found, found) if are_below([found], LEAST_WIDE) and sign_at(polynomial, found) == 0 else ()


def _narrow_stretches(polynomial):
    """Stretches of the roots that are narrow and apart, and in which the simplest fraction is the root if one is."""
    wide = _first_stretches(polynomial)
    # Two fractions with bottoms up to that of a short root are farther apart than this.
    limit = 2 * min(abs(polynomial[-1]), LEAST_WIDE) * min(abs(polynomial[-1]), LEAST_WIDE)
    while True:
        narrow = [_narrowed(polynomial, low, high, limit) for low, high in wide]
        if _are_apart(narrow):
            return narrow
        limit = limit * limit + 1


def _first_stretches(polynomial):
    """For each root a stretch with no other root above its low and below its high end, in order."""
    chain = chain_of(polynomial)
    found = []
    waiting = [(ZERO, ONE)]
    while waiting:
        low, high = waiting.pop()
        many = 1 if low == high else roots_within(chain, low, high)
        if many == 1:
            found.append((low, high))
        elif many > 1:
            middle = middle_of(low, high)
            waiting.append((middle, high))
            if sign_at(polynomial, middle) == 0:
                waiting.append((middle, middle))
            waiting.append((low, middle))
    return found


def _narrowed(polynomial, low, high, limit):
    """A stretch of the same root that is narrower than 1 / limit, and ends at neither of the two ends."""
    first, last = low, high
    ahead = sign_at(polynomial, low) or sign_at(slope_of(polynomial), low)
    while low != high and (low == first or high == last or _is_wider(low, high, limit)):
        middle = middle_of(low, high)
        sign = sign_at(polynomial, middle)
        if sign == 0:
            return middle, middle
        if sign == ahead:
            low = middle
        else:
            high = middle
    return low, high


def _are_apart(stretches):
    """Whether there is much more room between stretches, and to 0 and 1, than they need themselves."""
    for (low, high), (_, ahead), (behind, _) in zip(
        stretches, [(ZERO, ZERO)] + stretches[:-1], stretches[1:] + [(ONE, ONE)]
    ):
        own = minus(high, low)
        for room in (minus(low, ahead), minus(behind, high)):
            if room[0] * own[1] < MANY * own[0] * room[1]:
                return False
    return True


def _is_wider(low, high, limit):
    """Whether a stretch is at least as wide as 1 / limit."""
    width = minus(high, low)
    return width[0] * limit >= width[1]
