"""Rows that come round: they are played again and again for ever."""

from wonbyturns.base.chains import home_chances_of, homes_of, shares_of, values_of
from wonbyturns.base.checks import check_number, check_standing
from wonbyturns.base.pairs import lowest, short
from wonbyturns.base.papers import is_paper_of, paper_of
from wonbyturns.base.steps import row_step
from wonbyturns.base.words import is_integer
from wonbyturns.errors import InvalidNumber, InvalidOperation
from wonbyturns.play.rows import check_row, repeated_row, turned_row


def homes(house, row):
    """The homes of a row, ascending."""
    check_row(house, row)
    return tuple(homes_of(row_step(house, row)))


def shares(house, row, home):
    """The shares of the standings of a home, by the standings."""
    if not _is_home(home, homes(house, row)):
        raise InvalidOperation("this is no home of the row")
    tops, bottom = shares_of(row_step(house, row), home)
    return {one: short(lowest(top, bottom)) for one, top in zip(home, tops)}


def home_chances(house, row, standing):
    """The chances to come from a standing into the homes."""
    check_row(house, row)
    check_standing(house, standing)
    step = row_step(house, row)
    return tuple([short(one) for one in home_chances_of(step, homes_of(step))[standing]])


def long_runs(house, row):
    """The long runs of a row from all standings."""
    check_row(house, row)
    return tuple([short(one) for one in runs_of(row_step(house, row), len(row))])


def long_run(house, row, standing):
    """The long run of a row from a standing."""
    check_row(house, row)
    check_standing(house, standing)
    return short(runs_of(row_step(house, row), len(row))[standing])


def run_paper(house, row):
    """A run paper of a row."""
    check_row(house, row)
    return paper_of(row_step(house, row))


def is_run_paper(house, row, value):
    """Whether the value is a run paper of a row."""
    check_row(house, row)
    return is_paper_of(row_step(house, row), value)


class Round:
    """A row that comes round. It never changes."""

    def __init__(self, house, row):
        check_row(house, row)
        self._house = house
        self._row = row

    @property
    def house(self):
        """The house."""
        return self._house

    @property
    def row(self):
        """The row."""
        return self._row

    @property
    def runs(self):
        """The long runs from all standings."""
        return long_runs(self._house, self._row)

    @property
    def homes(self):
        """The homes of the row."""
        return homes(self._house, self._row)

    @property
    def turns(self):
        """The number of turns."""
        return len(self._row)

    def begun(self, turns):
        """The round that is begun so many turns later."""
        check_number(turns, 0, len(self._row))
        return Round(self._house, turned_row(self._row, turns))

    def again(self, times):
        """The round with the row so many times, one behind the other."""
        if not is_integer(times) or times < 1:
            raise InvalidNumber(times)
        return Round(self._house, repeated_row(self._row, times))

    def wins(self, standing):
        """Whether the long run from a standing is above 0."""
        return long_run(self._house, self._row, standing)[0] > 0

    def with_round(self, other):
        """The round of both rows, one behind the other."""
        if not isinstance(other, Round) or self._house != other._house:
            raise InvalidOperation("the other round is of an equal house")
        return Round(self._house, self._row + other._row)

    def __contains__(self, value):
        return isinstance(value, str) and value in self._row

    def __len__(self):
        return len(self._row)

    def __iter__(self):
        return iter(self._row)

    def __eq__(self, other):
        return isinstance(other, Round) and self._house == other._house and self._row == other._row

    def __str__(self):
        return f"{' '.join(self._row)} for ever"


def runs_of(step, turns):
    """The long runs of a row of so many turns with this step, in lowest terms."""
    return [lowest(top, bottom * turns) for top, bottom in values_of(step)]


def _is_home(value, among):
    """Whether the value is one of these homes."""
    return isinstance(value, tuple) and all([is_integer(one) for one in value]) and value in among
