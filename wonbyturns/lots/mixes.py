"""Lots: at each turn a game is drawn by chance."""

from wonbyturns.base.chains import values_of
from wonbyturns.base.checks import check_house
from wonbyturns.base.pairs import lowest, short, sum_of
from wonbyturns.base.steps import game_step
from wonbyturns.base.words import MAX_DIGITS, is_chance, is_fraction, is_integer
from wonbyturns.errors import InvalidFraction, InvalidLot, InvalidOperation, NoRow, TooMany, UnknownGame
from wonbyturns.lots.polynomials import chain_of, over_power, roots_within, sign_at, times, without_repeats
from wonbyturns.lots.quotients import lowest_quotient
from wonbyturns.lots.roots import middle_of, points_and_stretches
from wonbyturns.play.mixing import is_mixing

MAX_DEGREE = 12


def is_lot(house, value):
    """Whether the value is a lot of the house."""
    check_house(house)
    if not isinstance(value, dict) or len(value) != len(house):
        return False
    if not all([name in value and is_chance(value[name]) for name in house]):
        return False
    return sum_of([value[name] for name in house]) == (1, 1)


def mixed_game(house, lot):
    """The moves by lot for each standing."""
    return tuple([
        tuple([(to, gain, short(chance)) for to, gain, chance in moves])
        for moves in _mixed_moves(house, lot)
    ])


def lot_runs(house, lot):
    """The long runs by lot from all standings."""
    return tuple([short(one) for one in values_of(game_step(_mixed_moves(house, lot)))])


def is_polynomial(value):
    """Whether the value is a polynomial."""
    if not isinstance(value, tuple) or len(value) > MAX_DEGREE + 1:
        return False
    return all([is_integer(number) for number in value]) and (not value or value[-1] != 0)


def value_at(polynomial, x):
    """The value of a polynomial at a fraction."""
    if not is_polynomial(polynomial):
        raise InvalidOperation("this is no polynomial")
    if not is_fraction(x):
        raise InvalidFraction("a value is told for a fraction")
    top, bottom = over_power(polynomial, x)
    return short(lowest(top, bottom))


def roots_between(polynomial, low, high):
    """How many different roots lie above the low and below the high fraction."""
    if not is_polynomial(polynomial) or not polynomial:
        raise InvalidOperation("this is no polynomial, or it is 0 everywhere")
    if not is_fraction(low) or not is_fraction(high):
        raise InvalidFraction("roots lie between fractions")
    if low[0] * high[1] >= high[0] * low[1]:
        raise InvalidOperation("the low fraction is below the high one")
    return roots_within(chain_of(without_repeats(polynomial)), low, high)


def quotient(house, first, second):
    """A quotient of two polynomials in the chance of the first game, which is the long run."""
    upper, lower = _quotient_of(house, first, second)
    return _short_pair(upper, lower)


def is_quotient(house, first, second, value):
    """Whether the value is a quotient of two polynomials for two games."""
    upper, lower = _quotient_of(house, first, second)
    return _is_quotient(value, upper, lower)


def mix_signs(house, first, second):
    """Where the long run by lot is 0, and its signs between."""
    return _signs_for(_quotient_of(house, first, second)[0])


def are_mix_signs(house, first, second, signs):
    """Whether the last value tells where the long run by lot is 0, and its signs between."""
    upper, _ = _quotient_of(house, first, second)
    if not isinstance(signs, tuple) or len(signs) != 2 or not all([isinstance(part, tuple) for part in signs]):
        return False
    stretches, told = signs
    if not all([is_integer(sign) for sign in told]):
        return False
    if not upper:
        return stretches == () and told == (0,)
    if not _do_ascend(stretches) or not _hold_all_roots(upper, stretches):
        return False
    # Between neighbouring stretches there is no root, so one point tells the sign there.
    lows = [low for low, _ in stretches] + [(1, 1)]
    highs = [(0, 1)] + [high for _, high in stretches]
    return told == tuple([sign_at(upper, middle_of(high, low)) for high, low in zip(highs, lows)])


def winning_mix(house, first, second):
    """A chance of the first game by which the lot wins."""
    found = _winning(_quotient_of(house, first, second)[0])
    if found is None:
        raise NoRow((first, second))
    return short(found)


def mix_paper(house, first, second):
    """A chance by which the lot wins, or a quotient which shows that it never does."""
    upper, lower = _quotient_of(house, first, second)
    found = _winning(upper)
    if found is None:
        return ("none",) + _short_pair(upper, lower)
    return "wins", short(found)


def is_mix_paper(house, first, second, value):
    """Whether the value is a chance by which the lot wins, or a quotient which shows that it never does."""
    upper, lower = _quotient_of(house, first, second)
    if not isinstance(value, tuple) or len(value) not in (2, 3):
        return False
    if len(value) == 2:
        return value[0] == "wins" and is_chance(value[1]) and sign_at(upper, value[1]) > 0
    return value[0] == "none" and _winning(upper) is None and _is_quotient(value[1:], upper, lower)


class Mix:
    """The lots of two games. It never changes."""

    def __init__(self, house, first, second):
        self._upper, self._lower = _quotient_of(house, first, second)
        self._signs = _signs_for(self._upper)
        self._house = house
        self._names = (first, second)

    @property
    def house(self):
        """The house."""
        return self._house

    @property
    def names(self):
        """The names of the two games."""
        return self._names

    @property
    def signs(self):
        """Where the long run by lot is 0, and its signs between."""
        return self._signs

    def at(self, p):
        """The long run by the lot with this chance of the first game."""
        _check_chance(p)
        top, bottom = over_power(self._upper, p)
        by, unit = over_power(self._lower, p)
        return short(lowest(top * unit, bottom * by))

    def wins(self, p):
        """Whether the lot with this chance of the first game wins."""
        _check_chance(p)
        return sign_at(self._upper, p) > 0

    def turned(self):
        """The lots of the second and the first game."""
        return Mix(self._house, self._names[1], self._names[0])

    def lot(self, p):
        """The chances of both games, by their names."""
        _check_chance(p)
        chances = {self._names[0]: p, self._names[1]: (p[1] - p[0], p[1])}
        return {name: chances[name] for name in sorted(chances)}

    def __len__(self):
        return len(self._signs[0])

    def __eq__(self, other):
        return isinstance(other, Mix) and self._house == other._house and self._names == other._names

    def __str__(self):
        return f"{self._names[0]} and {self._names[1]}: {len(self._signs[0])} roots, {self._word()}"

    def _word(self):
        """Whether some lot wins, in words."""
        return "wins" if 1 in self._signs[1] else "never wins"


def _mixed_moves(house, lot):
    """The moves by lot for each standing, however long the numbers of their chances are."""
    if not is_lot(house, lot):
        raise InvalidLot("this is no lot of the house")
    drawn = [name for name in house if lot[name][0] > 0]
    mixed = []
    for standing in range(house.size):
        chances = {}
        for name in drawn:
            for to, gain, chance in house[name][standing]:
                part = (chance[0] * lot[name][0], chance[1] * lot[name][1])
                chances.setdefault((to, gain), []).append(part)
        mixed.append([(to, gain, sum_of(chances[to, gain])) for to, gain in sorted(chances)])
    return mixed


def _quotient_of(house, first, second):
    """The quotient for two games without a common divisor, however long its numbers are."""
    check_house(house)
    for name in (first, second):
        if name not in house:
            raise UnknownGame(name)
    if first == second:
        raise InvalidOperation("a game makes no lots with itself")
    others = [name for name in house if name not in (first, second)]
    both = house.without(*others)
    if not is_mixing(both):
        raise InvalidOperation("the two games do not mix")
    return lowest_quotient(both, first, second)


def _short_pair(upper, lower):
    """The two polynomials, unless one of their numbers is too long."""
    if not all([is_integer(number) for number in upper + lower]):
        raise TooMany(MAX_DIGITS)
    return upper, lower


def _is_quotient(value, upper, lower):
    """Whether the value is a pair of polynomials with this quotient, and the lower one is above 0 from 0 to 1."""
    if not isinstance(value, tuple) or len(value) != 2 or not all([is_polynomial(one) for one in value]):
        return False
    top, bottom = value
    if times(top, lower) != times(upper, bottom):
        return False
    return bool(bottom) and _is_above_zero(bottom)


def _is_above_zero(polynomial):
    """Whether a polynomial that is not 0 is above 0 at all numbers from 0 to 1."""
    if sign_at(polynomial, (0, 1)) < 1 or sign_at(polynomial, (1, 1)) < 1:
        return False
    return roots_within(chain_of(without_repeats(polynomial)), (0, 1), (1, 1)) == 0


def _signs_for(upper):
    """Where a polynomial is 0 above 0 and below 1, and its signs between."""
    if not upper:
        return (), (0,)
    points, stretches = points_and_stretches(upper)
    told = tuple([(short(low), short(high)) for low, high in stretches])
    return told, tuple([sign_at(upper, point) for point in points])


def _winning(upper):
    """A simple fraction from 0 to 1 at which the polynomial is above 0, or None."""
    if not upper:
        return None
    points = [(0, 1), (1, 1)] + sorted(points_and_stretches(upper)[0], key=_bottom)
    winning = [point for point in points if sign_at(upper, point) > 0]
    return winning[0] if winning else None


def _bottom(pair):
    """The bottom of a fraction."""
    return pair[1]


def _do_ascend(stretches):
    """Whether these are pairs of fractions above 0 and below 1, each of which ends below the one behind it."""
    for stretch in stretches:
        if not isinstance(stretch, tuple) or len(stretch) != 2 or not all([is_chance(end) for end in stretch]):
            return False
        low, high = stretch
        if low[0] == 0 or high == (1, 1) or low[0] * high[1] > high[0] * low[1]:
            return False
    return all([
        high[0] * low[1] < low[0] * high[1]
        for (_, high), (low, _) in zip(stretches, stretches[1:])
    ])


def _hold_all_roots(polynomial, stretches):
    """Whether each stretch holds one root, and all roots above 0 and below 1 are in stretches."""
    chain = chain_of(without_repeats(polynomial))
    for low, high in stretches:
        many = 1 if low == high else roots_within(chain, low, high)
        ends = [sign_at(polynomial, low) == 0, sign_at(polynomial, high) == 0]
        if many != 1 or ends != [low == high, low == high]:
            return False
    return roots_within(chain, (0, 1), (1, 1)) == len(stretches)


def _check_chance(value):
    """Raise an error unless the value is a fraction from 0 to 1."""
    if not is_chance(value):
        raise InvalidFraction("a chance is a fraction from 0 to 1")
