"""Sets of weights, which bound the long runs of all endless rows at once."""

from wonbyturns.above.closed import closed_weights
from wonbyturns.above.totals import common_steps, greatest_totals, is_covered, is_nowhere_more, led_back_over
from wonbyturns.base.checks import check_house, check_number
from wonbyturns.base.pairs import common_bottom, full_text, lowest, place, short, sum_of, tops_over
from wonbyturns.base.steps import game_step, vector_led_back
from wonbyturns.base.words import is_fraction, is_integer, is_vector
from wonbyturns.errors import InvalidFraction, InvalidNumber, InvalidOperation, InvalidWeights, UnknownGame

MAX_VECTORS = 200
MAX_LENGTH = 12


def is_weight_vector(house, value):
    """Whether the value is a vector of the house."""
    check_house(house)
    return is_vector(value, house.size)


def is_weights(house, value):
    """Whether the value is a set of weights of the house."""
    check_house(house)
    if not isinstance(value, tuple) or not 1 <= len(value) <= MAX_VECTORS:
        return False
    if not all([is_vector(vector, house.size) for vector in value]):
        return False
    return all([one < other for one, other in zip(value, value[1:])])


def led_back(house, name, vector):
    """The vector that comes of leading back a vector by a game."""
    check_house(house)
    _check_game(house, name)
    _check_vector(house, vector)
    return tuple([short(one) for one in vector_led_back(game_step(house[name]), vector)])


def lies_below(house, one, other):
    """Whether the first vector is nowhere more than the second one."""
    check_house(house)
    _check_vector(house, one)
    _check_vector(house, other)
    bottom = common_bottom(one + other)
    return is_nowhere_more(tops_over(one, bottom), tops_over(other, bottom))


def closing_bound(house, weights):
    """The least fraction for which a set of weights is closed."""
    check_weights(house, weights)
    return short(_bound_of(house, weights))


def does_close(house, bound, weights):
    """Whether a set of weights is closed for a bound."""
    check_house(house)
    if not is_fraction(bound):
        raise InvalidFraction("a bound is a fraction")
    check_weights(house, weights)
    return _is_closed(house, bound, weights)


def greatest_total(house, length):
    """The greatest total of rows of this length."""
    return short(_last_total(house, length)[0])


def ceiling(house, length):
    """The greatest total of rows of this length, divided by it."""
    return _ceiling_of(_last_total(house, length)[0], length)


def greatest_row(house, length):
    """A row and a standing with the greatest total."""
    _, row, standing = _last_total(house, length)
    return row, standing


def weights_of(house, length):
    """A set of weights that is closed for the ceiling of this length."""
    return closed_weights(house, ceiling(house, length), length, MAX_VECTORS)


def above_paper(house, length):
    """The ceiling of this length, and a set of weights that is closed for it."""
    return ceiling(house, length), weights_of(house, length)


def is_above_paper(house, value):
    """Whether the value is a bound and a set of weights that is closed for it."""
    check_house(house)
    if not isinstance(value, tuple) or len(value) != 2:
        return False
    bound, weights = value
    return is_fraction(bound) and is_weights(house, weights) and _is_closed(house, bound, weights)


class Weights:
    """A set of weights of a house. It never changes."""

    def __init__(self, house, vectors):
        check_weights(house, vectors)
        self._house = house
        self._vectors = vectors

    @property
    def house(self):
        """The house."""
        return self._house

    @property
    def vectors(self):
        """The vectors, ascending."""
        return self._vectors

    @property
    def bound(self):
        """The closing bound."""
        return closing_bound(self._house, self._vectors)

    def lean(self):
        """The set without the vectors that lie below another one of it."""
        tops = _tops_of(self._vectors)[0]
        kept = [
            vector
            for vector, own in zip(self._vectors, tops)
            if not is_covered(own, [other for other in tops if other != own])
        ]
        return Weights(self._house, tuple(kept))

    def raised(self, fraction):
        """The set with so much more everywhere."""
        if not is_fraction(fraction):
            raise InvalidFraction("vectors are raised by a fraction")
        raised = [tuple([short(sum_of([one, fraction])) for one in vector]) for vector in self._vectors]
        return Weights(self._house, tuple(sorted(raised)))

    def step(self, name):
        """The set of the vectors that are led back by a game."""
        _check_game(self._house, name)
        behind = [led_back(self._house, name, vector) for vector in self._vectors]
        return Weights(self._house, tuple(sorted(set(behind))))

    def follows(self, name, index):
        """The index of the first vector that is nearest to one of the vectors led back by a game."""
        _check_game(self._house, name)
        self._check_index(index)
        tops, unit = _tops_of(self._vectors)
        steps, bottom = common_steps(self._house)
        differences = _differences(led_back_over(steps[name], unit, tops[index]), _scaled(tops, bottom))
        return differences.index(min(differences))

    def __or__(self, other):
        if not isinstance(other, Weights) or self._house != other._house:
            raise InvalidOperation("the other set is one of an equal house")
        return Weights(self._house, tuple(sorted(set(self._vectors + other._vectors))))

    def __getitem__(self, index):
        self._check_index(index)
        return self._vectors[index]

    def __contains__(self, value):
        return is_vector(value, self._house.size) and value in self._vectors

    def __len__(self):
        return len(self._vectors)

    def __iter__(self):
        return iter(self._vectors)

    def __eq__(self, other):
        return isinstance(other, Weights) and self._house == other._house and self._vectors == other._vectors

    def __str__(self):
        return f"{len(self._vectors)} vectors, {full_text(self.bound)}"

    def _check_index(self, value):
        """Raise an error unless the value is the index of a vector."""
        if not is_integer(value) or not 0 <= value < len(self._vectors):
            raise InvalidNumber(value)


def check_weights(house, value):
    """Raise an error unless the first value is a house, and the second one a set of weights of it."""
    if not is_weights(house, value):
        raise InvalidWeights("this is no set of weights of the house")


def least_ceiling(house, most):
    """The least ceiling of the lengths up to this one, and the first length that has it."""
    totals = greatest_totals(house, most)
    ceilings = [_ceiling_of(found[0], length) for length, found in enumerate(totals, start=1)]
    places = [place(one) for one in ceilings]
    at = places.index(min(places))
    return ceilings[at], at + 1


def _check_game(house, name):
    """Raise an error unless a game of the house has this name."""
    if name not in house:
        raise UnknownGame(name)


def _check_vector(house, value):
    """Raise an error unless the value is a vector of the house."""
    if not is_vector(value, house.size):
        raise InvalidWeights("this is no vector of the house")


def _last_total(house, length):
    """The greatest total of a length, and a row and a standing with it."""
    check_house(house)
    check_number(length, 1, MAX_LENGTH)
    return greatest_totals(house, length)[-1]


def _ceiling_of(total, length):
    """The ceiling that comes of the greatest total of a length."""
    return short(lowest(total[0], total[1] * length))


def _tops_of(weights):
    """The tops of vectors, and the bottom of them all."""
    unit = common_bottom([one for vector in weights for one in vector])
    return [tops_over(vector, unit) for vector in weights], unit


def _differences(vector, others):
    """The greatest differences of a vector to each of the others."""
    return [max([one - by for one, by in zip(vector, other)]) for other in others]


def _bound_of(house, weights):
    """The closing bound, in lowest terms."""
    tops, unit = _tops_of(weights)
    steps, bottom = common_steps(house)
    others = _scaled(tops, bottom)
    bounds = [
        min(_differences(led_back_over(steps[name], unit, vector), others))
        for name in steps
        for vector in tops
    ]
    return lowest(max(bounds), unit * bottom)


def _scaled(vectors, factor):
    """The vectors with all entries multiplied."""
    return [[factor * top for top in vector] for vector in vectors]


def _is_closed(house, bound, weights):
    """Whether a set of weights is closed for a bound."""
    least = _bound_of(house, weights)
    return least[0] * bound[1] <= bound[0] * least[1]
