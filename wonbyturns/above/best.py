"""Best rows: which of all rows up to a number of turns gain the most in the long run."""

from wonbyturns.above.closed import closed_weights
from wonbyturns.above.weights import MAX_VECTORS, is_above_paper, least_ceiling
from wonbyturns.base.checks import check_house, check_number, check_standing
from wonbyturns.base.pairs import LEAST_WIDE, are_below, full_text, place, short
from wonbyturns.base.steps import game_step, joined, row_step
from wonbyturns.base.words import is_fraction
from wonbyturns.errors import InvalidRow, NoRow, TooMany
from wonbyturns.play.rounds import is_run_paper, run_paper, runs_of
from wonbyturns.play.rows import MAX_TURNS, is_row

MAX_ROWS = 5000


def rows_upto(house, most):
    """The rows up to a number of turns, those with fewer turns first."""
    _check_most(house, most)
    _check_rows(house, most)
    rows = [()]
    for _ in range(most):
        rows = [row + (name,) for row in rows for name in house]
        for row in rows:
            yield row


def top_run(house, most, standing):
    """The greatest long run of the rows up to a number of turns."""
    return _best_of(house, most, standing)[1]


def best_row(house, most, standing):
    """The first row with the greatest long run."""
    return _best_of(house, most, standing)[0]


def winning_rows(house, most, standing):
    """The rows up to a number of turns that win, those with fewer turns first."""
    _check_all(house, most, standing)
    for row, run in _rows_with_runs(house, most, standing):
        if run[0] > 0:
            yield row


def fewest_turns(house, most, standing):
    """How many turns the first row has that wins."""
    for row in winning_rows(house, most, standing):
        return len(row)
    raise NoRow(most)


def won_by_turns(house, most, standing):
    """Whether each game loses, and some row up to a number of turns wins."""
    _check_all(house, most, standing)
    if _names_not_losing(house, standing):
        return False
    for _ in winning_rows(house, most, standing):
        return True
    return False


def turns_paper(house, most, standing):
    """A paper which shows that the house is won by turns, or why it is not."""
    _check_all(house, most, standing)
    names = _names_not_losing(house, standing)
    if names:
        row, paper = _row_with_short_paper(house, [(name,) for name in names])
        return "not", row[0], paper
    rows = list(winning_rows(house, most, standing))
    if rows:
        row, paper = _row_with_short_paper(house, rows)
        return "won", row, paper, {name: run_paper(house, (name,)) for name in house}
    bound, length = least_ceiling(house, most)
    if bound[0] > 0:
        raise NoRow(most)
    # A set that is closed for 0 says as much as is asked for, and can do with shorter numbers.
    return "none", (0, 1), closed_weights(house, (0, 1), length, MAX_VECTORS)


def is_turns_paper(house, standing, value):
    """Whether the value is a paper which shows that the house is won by turns, or why it is not."""
    check_house(house)
    check_standing(house, standing)
    if not isinstance(value, tuple) or len(value) not in (3, 4):
        return False
    if len(value) == 4:
        word, row, paper, papers = value
        return word == "won" and _do_win(house, standing, row, paper) and _do_lose(house, standing, papers)
    word, one, other = value
    if word == "none":
        return is_above_paper(house, (one, other)) and one[0] <= 0
    return word == "not" and _is_paper(house, (one,), other) and other[0][standing][0] >= 0


def pin(house, most, standing):
    """The first best row, its long run, the least ceiling, and weights that are closed for it."""
    row, low = _best_of(house, most, standing)
    high, length = least_ceiling(house, most)
    return row, low, high, closed_weights(house, high, length, MAX_VECTORS)


def is_pin(house, standing, value):
    """Whether the value is a row, its long run, and a bound with weights that are closed for it."""
    check_house(house)
    check_standing(house, standing)
    if not isinstance(value, tuple) or len(value) != 4:
        return False
    row, low, high, weights = value
    if not is_row(house, row) or not is_fraction(low) or not is_above_paper(house, (high, weights)):
        return False
    return runs_of(row_step(house, row), len(row))[standing] == low


class Best:
    """The rows up to a number of turns from a standing. It never changes."""

    def __init__(self, house, most, standing):
        _check_all(house, most, standing)
        found = list(_rows_with_runs(house, most, standing))
        places = [place(run) for _, run in found]
        top = max(places)
        self._house = house
        self._most = most
        self._standing = standing
        self._rows = tuple([row for row, _ in found])
        self._runs = tuple([run for _, run in found])
        self._places = tuple(places)
        self._best = tuple([row for row, at in zip(self._rows, places) if at == top])

    @property
    def house(self):
        """The house."""
        return self._house

    @property
    def most(self):
        """The greatest number of turns."""
        return self._most

    @property
    def standing(self):
        """The standing from which the rows are played."""
        return self._standing

    @property
    def top(self):
        """The greatest long run."""
        return self._top_of(len(self._rows))

    @property
    def row(self):
        """The first row with the greatest long run."""
        return self._best[0]

    @property
    def by_turns(self):
        """The greatest long runs of the rows up to each number of turns."""
        return tuple([self._top_of(_many_rows(self._house, most)) for most in range(1, self._most + 1)])

    def run_of(self, row):
        """The long run of a row."""
        return self._runs[self._index_of(row)]

    def ahead(self, row):
        """How many rows have a greater long run."""
        own = self._places[self._index_of(row)]
        return len([at for at in self._places if at > own])

    def alike(self, row):
        """The rows with the same long run, ascending."""
        own = self._places[self._index_of(row)]
        return tuple(sorted([one for one, at in zip(self._rows, self._places) if at == own]))

    def __contains__(self, value):
        return self._is_among(value) and self._places[self._rows.index(value)] > 0

    def __len__(self):
        return len(self._rows)

    def __iter__(self):
        return iter(self._best)

    def __eq__(self, other):
        return (
            isinstance(other, Best)
            and self._house == other._house
            and self._most == other._most
            and self._standing == other._standing
        )

    def __str__(self):
        return f"{len(self._rows)} rows up to {self._most}, best {full_text(self.top)}"

    def _top_of(self, many):
        """The greatest long run of so many rows, from the first one on."""
        return self._runs[self._places.index(max(self._places[:many]))]

    def _is_among(self, value):
        """Whether the value is one of the rows."""
        return is_row(self._house, value) and len(value) <= self._most

    def _index_of(self, row):
        """The index of a row."""
        if not self._is_among(row):
            raise InvalidRow("this is no row of the house with so few turns")
        return self._rows.index(row)


def _check_most(house, most):
    """Raise an error unless there are such a house and such a number of turns."""
    check_house(house)
    check_number(most, 1, MAX_TURNS)


def _check_rows(house, most):
    """Raise an error if there are too many rows."""
    if _many_rows(house, most) > MAX_ROWS:
        raise TooMany(MAX_ROWS)


def _check_all(house, most, standing):
    """Raise an error unless there are such a house, number of turns and standing, and not too many rows."""
    _check_most(house, most)
    check_standing(house, standing)
    _check_rows(house, most)


def _many_rows(house, most):
    """How many rows up to a number of turns there are."""
    many = 0
    for _ in range(most):
        many = (many + 1) * len(house)
    return many


def _rows_with_runs(house, most, standing):
    """The rows up to a number of turns with their long runs, those with fewer turns first."""
    steps = [((name,), game_step(house[name])) for name in house]
    found = steps
    for turns in range(1, most + 1):
        for row, step in found:
            yield row, short(runs_of(step, turns)[standing])
        if turns < most:
            found = [(row + name, joined(step, last)) for row, step in found for name, last in steps]


def _best_of(house, most, standing):
    """The first row with the greatest long run, and this run."""
    _check_all(house, most, standing)
    found = list(_rows_with_runs(house, most, standing))
    places = [place(run) for _, run in found]
    return found[places.index(max(places))]


def _names_not_losing(house, standing):
    """The names of the games that do not lose alone."""
    return [name for name in house if runs_of(game_step(house[name]), 1)[standing][0] >= 0]


def _row_with_short_paper(house, rows):
    """The first of some rows that has a run paper with short numbers, or else the first one; and the paper."""
    for row in rows:
        paper = run_paper(house, row)
        if all([are_below(vector, LEAST_WIDE) for vector in paper]):
            return row, paper
    return rows[0], run_paper(house, rows[0])


def _is_paper(house, row, paper):
    """Whether the first value is a row, and the second one a run paper of it."""
    return is_row(house, row) and is_run_paper(house, row, paper)


def _do_win(house, standing, row, paper):
    """Whether the values are a row that wins and its run paper."""
    return _is_paper(house, row, paper) and paper[0][standing][0] > 0


def _do_lose(house, standing, papers):
    """Whether the value is a dict from all names to run papers by which the games lose."""
    if not isinstance(papers, dict) or len(papers) != len(house):
        return False
    if not all([name in papers and is_run_paper(house, (name,), papers[name]) for name in house]):
        return False
    return all([papers[name][0][standing][0] < 0 for name in house])
