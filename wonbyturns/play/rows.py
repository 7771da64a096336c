"""Rows: games that are played one behind the other."""

from wonbyturns.base.checks import check_house, check_standing
from wonbyturns.base.pairs import common_bottom, lowest, short, short_vector, top_over
from wonbyturns.base.steps import row_step, vector_led_back
from wonbyturns.base.words import is_integer, is_vector
from wonbyturns.errors import InvalidNumber, InvalidOperation, InvalidRow, InvalidWeights

MAX_TURNS = 12


def is_row(house, value):
    """Whether the value is a row of the house."""
    check_house(house)
    if not isinstance(value, tuple) or not 1 <= len(value) <= MAX_TURNS:
        return False
    return all([name in house for name in value])


def row_places(house, row, standing):
    """The places of a row, ascending."""
    return tuple([to for to, top in enumerate(_row_chances(house, row, standing)[0]) if top > 0])


def row_chances(house, row, standing):
    """The chances of a row to lead to each standing."""
    tops, bottom = _row_chances(house, row, standing)
    return short_vector(tops, bottom)


def row_total(house, row, standing):
    """The mean of the sum of the gains of a row from a standing."""
    _check_all(house, row, standing)
    _, gains, bottom = row_step(house, row)
    return short(lowest(gains[standing], bottom))


def row_totals(house, row):
    """The totals of a row from all standings."""
    check_row(house, row)
    _, gains, bottom = row_step(house, row)
    return short_vector(gains, bottom)


def row_gains(house, row, standing):
    """The chances of the sums of gains that a row can have from a standing, by these sums."""
    _check_all(house, row, standing)
    states = {(0, standing): 1}
    whole = 1
    for name in row:
        bottom = common_bottom([move[2] for moves in house[name] for move in moves])
        states = _states_behind(states, house[name], bottom)
        whole = whole * bottom
    tops = {}
    for gains, to in states:
        tops[gains] = tops.get(gains, 0) + states[gains, to]
    return {gains: short(lowest(tops[gains], whole)) for gains in sorted(tops)}


class Row:
    """A row with its house. It never changes."""

    def __init__(self, house, names):
        check_row(house, names)
        self._house = house
        self._names = names

    @property
    def house(self):
        """The house."""
        return self._house

    @property
    def names(self):
        """The names of the games, as they are played."""
        return self._names

    @property
    def sums(self):
        """The totals from all standings."""
        return row_totals(self._house, self._names)

    def table(self):
        """The chances to lead to each standing, from each standing."""
        chances, _, bottom = row_step(self._house, self._names)
        return tuple([short_vector(tops, bottom) for tops in chances])

    def led_back(self, vector):
        """The vector that comes of leading back a vector by all games of the row."""
        if not is_vector(vector, self._house.size):
            raise InvalidWeights("this is no vector of the house")
        behind = vector_led_back(row_step(self._house, self._names), vector)
        return tuple([short(one) for one in behind])

    def later(self, turns):
        """The row begun so many turns later, as it comes round."""
        if not is_integer(turns) or turns < 0:
            raise InvalidNumber(turns)
        return Row(self._house, turned_row(self._names, turns))

    def root(self):
        """The shortest row of which this one is a repetition."""
        many = len(self._names)
        sizes = [size for size in range(1, many + 1) if turned_row(self._names, size) == self._names]
        return Row(self._house, self._names[:sizes[0]])

    def __add__(self, other):
        if not isinstance(other, Row) or self._house != other._house:
            raise InvalidOperation("the other row is of an equal house")
        return Row(self._house, self._names + other._names)

    def __mul__(self, other):
        if not is_integer(other) or other < 1:
            raise InvalidOperation("a row is repeated at least once")
        return Row(self._house, repeated_row(self._names, other))

    def __getitem__(self, index):
        if not is_integer(index) or not 0 <= index < len(self._names):
            raise InvalidNumber(index)
        return self._names[index]

    def __contains__(self, value):
        return isinstance(value, str) and value in self._names

    def __len__(self):
        return len(self._names)

    def __iter__(self):
        return iter(self._names)

    def __eq__(self, other):
        return isinstance(other, Row) and self._house == other._house and self._names == other._names

    def __str__(self):
        return " ".join(self._names)


def check_row(house, value):
    """Raise an error unless the first value is a house, and the second one a row of it."""
    if not is_row(house, value):
        raise InvalidRow("this is no row of the house")


def turned_row(row, turns):
    """The row begun so many turns later, as it comes round."""
    start = turns % len(row)
    return row[start:] + row[:start]


def repeated_row(row, many):
    """The row so many times, one behind the other, or what is too long for a row."""
    # However often a row is repeated, one time more than a row can have is too often.
    return row * min(many, MAX_TURNS + 1)


def _check_all(house, row, standing):
    """Raise an error unless there are such a house, row and standing."""
    check_row(house, row)
    check_standing(house, standing)


def _row_chances(house, row, standing):
    """The tops and the bottom of the chances of a row to lead to each standing."""
    _check_all(house, row, standing)
    chances, _, bottom = row_step(house, row)
    return chances[standing], bottom


def _states_behind(states, game, bottom):
    """The tops of the chances of sums of gains and standings behind a turn."""
    behind = {}
    for gains, standing in states:
        for to, gain, chance in game[standing]:
            state = (gains + gain, to)
            behind[state] = behind.get(state, 0) + states[gains, standing] * top_over(chance, bottom)
    return behind
