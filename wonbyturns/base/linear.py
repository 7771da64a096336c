"""Linear equations, solved in integers."""

from wonbyturns.base.pairs import common_bottom, short_vector, tops_over
from wonbyturns.base.words import MAX_DIGITS, is_vector
from wonbyturns.errors import InvalidOperation, TooMany

MAX_EQUATIONS = 20

# About 30000 digits. Numbers on the way that are longer than that would take minutes, and
# what comes of them is hardly ever short enough to be told.
MAX_BITS = 100000


def solved(rows):
    """The tuple of the fractions that solve linear equations, or None if not just one does."""
    if not _are_equations(rows):
        raise InvalidOperation("these are no equations")
    answer = solution([tops_over(row, common_bottom(row)) for row in rows])
    if answer is None:
        return None
    tops, bottom = answer
    return short_vector(tops, bottom)


def solution(rows):
    """The tops and the common bottom of what solves equations of integers, or None as above."""
    # Each step takes one unknown out of all other equations. What is divided away is the head
    # of the step before: it divides exactly, as all numbers are determinants of the equations.
    left = list(rows)
    bottom = 1
    for at in range(len(left)):
        chosen = _first_with_a_head(left, at)
        if chosen is None:
            return None
        head = left[chosen]
        if head[0].bit_length() > MAX_BITS:
            raise TooMany(MAX_DIGITS)
        left[chosen] = left[at]
        left[at] = head
        left = [
            head[1:] if index == at else _without_head(row, head, bottom)
            for index, row in enumerate(left)
        ]
        bottom = head[0]
    return [row[0] for row in left], bottom


def _first_with_a_head(rows, start):
    """The index of the first row from this one on that does not begin with 0, or None."""
    for index in range(start, len(rows)):
        if rows[index][0] != 0:
            return index
    return None


def _without_head(row, head, bottom):
    """The row with so much of another one taken off that its first number is gone."""
    return [(head[0] * one - row[0] * by) // bottom for one, by in zip(row[1:], head[1:])]


def _are_equations(value):
    """Whether the value is a tuple of rows of one fraction more than there are rows."""
    if not isinstance(value, tuple) or not 1 <= len(value) <= MAX_EQUATIONS:
        return False
    return all([is_vector(row, len(value) + 1) for row in value])
