"""Fractions: as objects of class Ratio, and as pairs (top, bottom)."""

from wonbyturns.base.pairs import lowest, pair_read, place, short, sum_of, text_of
from wonbyturns.base.words import is_chance, is_fraction, is_integer, is_vector
from wonbyturns.errors import InvalidFraction, InvalidOperation, ParseError

MAX_POWER = 30


class Ratio:
    """A fraction in lowest terms. It never changes."""

    def __init__(self, top, bottom=1):
        if not is_integer(top) or not is_integer(bottom):
            raise InvalidFraction("a fraction is made of two integers")
        if bottom == 0:
            raise InvalidFraction("the bottom of a fraction is not 0")
        self._top, self._bottom = lowest(top, bottom)

    @classmethod
    def of(cls, pair):
        """The fraction of a pair."""
        if not is_fraction(pair):
            raise InvalidFraction("this is no pair of integers in lowest terms")
        return cls(pair[0], pair[1])

    @classmethod
    def read(cls, text):
        """The fraction with this text."""
        pair = pair_read(text)
        if pair is None:
            raise ParseError(None)
        return cls(pair[0], pair[1])

    @property
    def top(self):
        """The top, with the sign of the fraction."""
        return self._top

    @property
    def bottom(self):
        """The bottom, at least 1."""
        return self._bottom

    @property
    def pair(self):
        """The pair of top and bottom."""
        return self._top, self._bottom

    @property
    def text(self):
        """The text, which has no bottom for an integer."""
        return text_of(self.pair)

    @property
    def sign(self):
        """One of -1, 0 and 1."""
        if self._top == 0:
            return 0
        return 1 if self._top > 0 else -1

    @property
    def whole(self):
        """The greatest integer that is not above the fraction."""
        return self._top // self._bottom

    def __add__(self, other):
        top, bottom = _operand(other)
        return _ratio(self._top * bottom + top * self._bottom, self._bottom * bottom)

    def __sub__(self, other):
        top, bottom = _operand(other)
        return _ratio(self._top * bottom - top * self._bottom, self._bottom * bottom)

    def __mul__(self, other):
        top, bottom = _operand(other)
        return _ratio(self._top * top, self._bottom * bottom)

    def __neg__(self):
        return _ratio(-self._top, self._bottom)

    def __abs__(self):
        return _ratio(abs(self._top), self._bottom)

    def __bool__(self):
        return bool(self._top)

    def __eq__(self, other):
        return isinstance(other, Ratio) and self._top == other._top and self._bottom == other._bottom

    def __str__(self):
        return str(self.text)

    def divided(self, other):
        """The fraction divided by a Ratio or an integer."""
        top, bottom = _operand(other)
        if top == 0:
            raise InvalidOperation("nothing is divided by 0")
        return _ratio(self._top * bottom, self._bottom * top)

    def power(self, exponent):
        """The power with an exponent from -30 to 30; that with the exponent 0 is 1."""
        if not is_integer(exponent) or not -MAX_POWER <= exponent <= MAX_POWER:
            raise InvalidOperation("an exponent is an integer from -30 to 30")
        if exponent < 0 and self._top == 0:
            raise InvalidOperation("0 has no power with an exponent below 0")
        top, bottom = 1, 1
        for _ in range(abs(exponent)):
            top, bottom = top * self._top, bottom * self._bottom
        return _ratio(bottom, top) if exponent < 0 else _ratio(top, bottom)

    def is_below(self, other):
        """Whether the fraction is less than a Ratio or an integer."""
        top, bottom = _operand(other)
        return self._top * bottom < top * self._bottom

    def between(self, other):
        """The simplest fraction strictly between both."""
        if not isinstance(other, Ratio):
            raise InvalidOperation("the other end is a Ratio")
        if self == other:
            raise InvalidOperation("no fraction lies between equal ones")
        low, high = (self, other) if self.is_below(other) else (other, self)
        top, bottom = simplest(low.pair, high.pair)
        return _ratio(top, bottom)


def added(pairs):
    """The sum of fractions."""
    _check_fractions(pairs)
    return short(sum_of(pairs))


def mean(pairs, chances):
    """The sum of the products of fractions with as many chances that sum to 1."""
    _check_fractions(pairs)
    if not _are_chances(chances, len(pairs)):
        raise InvalidFraction("these are not as many chances that sum to 1")
    return short(sum_of([(one[0] * by[0], one[1] * by[1]) for one, by in zip(pairs, chances)]))


def in_order(pairs):
    """The fractions from the least to the greatest one."""
    _check_fractions(pairs)
    return tuple(sorted(pairs, key=place))


def least(pairs):
    """The least one of the fractions."""
    _check_some_fractions(pairs)
    return min(pairs, key=place)


def greatest(pairs):
    """The greatest one of the fractions."""
    _check_some_fractions(pairs)
    return max(pairs, key=place)


def _check_fractions(pairs):
    """Raise an error unless the value is a tuple of fractions."""
    if not isinstance(pairs, tuple) or not is_vector(pairs, len(pairs)):
        raise InvalidFraction("this is no tuple of fractions")


def _check_some_fractions(pairs):
    """Raise an error unless the value is a tuple of at least one fraction."""
    _check_fractions(pairs)
    if not pairs:
        raise InvalidOperation("among no fractions none is the least or the greatest one")


def _are_chances(value, size):
    """Whether the value is a tuple of so many chances that sum to 1."""
    if not isinstance(value, tuple) or len(value) != size:
        return False
    return all([is_chance(one) for one in value]) and sum_of(value) == (1, 1)


def _ratio(top, bottom):
    """The Ratio of two integers of any length, the second one not 0."""
    # Only the result may not be too long; the integers that are passed can still cancel.
    top, bottom = short(lowest(top, bottom))
    return Ratio(top, bottom)


def _operand(value):
    """The pair of a Ratio or of an integer."""
    if isinstance(value, Ratio):
        return value.pair
    if not is_integer(value):
        raise InvalidOperation("an operand is a Ratio or an integer")
    return value, 1


def simplest(low, high):
    """The pair between two pairs with the least bottom, and then with the top nearest to 0."""
    if low[0] < 0 < high[0]:
        return 0, 1
    if low[0] >= 0:
        return _simplest_above_zero(low, high)
    top, bottom = _simplest_above_zero((-high[0], high[1]), (-low[0], low[1]))
    return -top, bottom


def _simplest_above_zero(low, high):
    """The same, where the lower pair is not below 0."""
    (low_top, low_bottom), (high_top, high_bottom) = low, high
    steps = []
    whole = low_top // low_bottom
    while (whole + 1) * high_bottom >= high_top:
        # With no integer between, all that lies between is the whole and 1 / x, for the x
        # between the ends turned over. If the lower end is the whole itself, x has no upper
        # end, which is then written with the bottom 0.
        steps.append(whole)
        low_top, low_bottom, high_top, high_bottom = (
            high_bottom,
            high_top - whole * high_bottom,
            low_bottom,
            low_top - whole * low_bottom,
        )
        whole = low_top // low_bottom
    top, bottom = whole + 1, 1
    for step in steps[::-1]:
        top, bottom = step * top + bottom, top
    return top, bottom
