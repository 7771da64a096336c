"""Sayings about a house, and whether they hold."""

from wonbyturns.base.chains import home_values_of, homes_of
from wonbyturns.base.pairs import are_at_most
from wonbyturns.base.steps import row_step
from wonbyturns.base.words import is_fraction, is_integer, is_word
from wonbyturns.free.policies import exact_best_runs
from wonbyturns.play.mixing import is_mixing
from wonbyturns.play.rows import MAX_TURNS, turned_row

MAX_MOST = 5

# The parts of the sayings behind their first word.
PARTS = {"mixes": (), "wins": ("row",), "least": ("row", "bound"), "free": ("bound",), "upto": ("most", "bound")}


def is_saying(value):
    """Whether the value is a saying."""
    if not isinstance(value, tuple) or not value or not isinstance(value[0], str) or value[0] not in PARTS:
        return False
    parts = PARTS[value[0]]
    return len(value) == len(parts) + 1 and all([_is_part(part, one) for part, one in zip(parts, value[1:])])


def words_of(saying):
    """The words in the row of a saying."""
    return saying[1] if saying[0] in ("wins", "least") else ()


def is_true(house, saying):
    """Whether a saying fits a house and is true."""
    if not all([word in house for word in words_of(saying)]):
        return False
    word = saying[0]
    if word == "mixes":
        return is_mixing(house)
    if word == "wins":
        return does_win(house, saying[1])
    if word == "least":
        values = _home_values(house, saying[1])
        return are_at_most([_for_a_round(saying[1], saying[2])] * len(values), values)
    if word == "free":
        return are_at_most([saying[1]] * house.size, exact_best_runs(house))
    return all([_is_at_most(house, row, saying[2]) for row in different_rows(house, saying[1])])


def does_win(house, row):
    """Whether the long run of a row is above 0 from each standing."""
    return all([value[0] > 0 for value in _home_values(house, row)])


def does_lose(house, row):
    """Whether the long run of a row is below 0 from each standing."""
    return all([value[0] < 0 for value in _home_values(house, row)])


def different_rows(house, most):
    """The rows of at most so many turns, in order, but none that is another one begun later, or repeated."""
    # Those that are left out have the same least and the same greatest long run.
    found = []
    rows = [()]
    for _ in range(most):
        rows = [row + (name,) for row in rows for name in house]
        found = found + [row for row in rows if _is_first(row)]
    return found


def _is_part(part, value):
    """Whether the value is such a part of a saying."""
    if part == "bound":
        return is_fraction(value)
    if part == "most":
        return is_integer(value) and 1 <= value <= MAX_MOST
    return isinstance(value, tuple) and 1 <= len(value) <= MAX_TURNS and all([is_word(word) for word in value])


def _is_first(row):
    """Whether a row comes ahead of all that are this one begun later."""
    return all([row < turned_row(row, turns) for turns in range(1, len(row))])


def _home_values(house, row):
    """What a row gains by a round in each of its homes; from elsewhere it gains a mean of these."""
    step = row_step(house, row)
    return home_values_of(step, homes_of(step))


def _is_at_most(house, row, bound):
    """Whether the long run of a row is nowhere above a bound."""
    values = _home_values(house, row)
    return are_at_most(values, [_for_a_round(row, bound)] * len(values))


def _for_a_round(row, bound):
    """A gain of one turn, as one of a round."""
    return bound[0] * len(row), bound[1]
