"""Steps of a chain of standings: the chances to come from each to each, and the mean gains.

A step is a triple (chances, gains, bottom): for each standing a list of integers and an integer,
which are the tops of the chances and of the mean gain; all of them have the same bottom. So a
step of many turns takes no more work than is needed, and nothing is brought to lowest terms on
the way.
"""

from wonbyturns.base.pairs import common_bottom, lowest, top_over, tops_over


def game_step(game):
    """The step of a game."""
    bottom = common_bottom([move[2] for moves in game for move in moves])
    return (
        [chances_over(moves, len(game), bottom) for moves in game],
        [gain_over(moves, bottom) for moves in game],
        bottom,
    )


def row_step(house, row):
    """The step of all turns of a row, one behind the other."""
    steps = {name: game_step(house[name]) for name in house if name in row}
    whole = steps[row[0]]
    for name in row[1:]:
        whole = joined(whole, steps[name])
    return whole


def joined(one, other):
    """The step of one step and then another one."""
    chances, gains, bottom = one
    behind, more, factor = other
    columns = list(zip(*behind))
    return (
        [[dot(row, column) for column in columns] for row in chances],
        [gain * factor + dot(row, more) for row, gain in zip(chances, gains)],
        bottom * factor,
    )


def dot(some, others):
    """The sum of the products of numbers."""
    return sum([one * other for one, other in zip(some, others)])


def vector_behind(step, vector):
    """For each standing the mean of what the vector tells behind a step, in lowest terms."""
    chances, _, bottom = step
    common = common_bottom(vector)
    tops = tops_over(vector, common)
    return tuple([lowest(dot(row, tops), bottom * common) for row in chances])


def vector_led_back(step, vector):
    """For each standing the mean of the gain of a step and of what the vector tells behind it."""
    chances, gains, bottom = step
    common = common_bottom(vector)
    tops = tops_over(vector, common)
    return tuple([lowest(gain * common + dot(row, tops), bottom * common) for row, gain in zip(chances, gains)])


def chances_over(moves, size, bottom):
    """The tops of the chances of moves to each of so many standings."""
    return [sum([top_over(chance, bottom) for to, _, chance in moves if to == standing]) for standing in range(size)]


def gain_over(moves, bottom):
    """The top of the mean gain of moves."""
    return sum([gain * top_over(chance, bottom) for _, gain, chance in moves])
