"""Houses for the tests, and slow answers that follow the words of the document."""

import itertools
import random
from fractions import Fraction

from wonbyturns.base.houses import House

SWAP_GAMES = {"c": (((1, 1, (1, 1)),), ((0, -1, (1, 1)),)), "d": (((0, 0, (1, 1)),), ((0, 0, (1, 1)),))}
SEE_GAMES = {
    "e": (((0, 1, (1, 2)), (1, 1, (1, 2))), ((0, -1, (1, 2)), (1, -1, (1, 2)))),
    "f": (((0, -1, (1, 2)), (1, -1, (1, 2))), ((0, 1, (1, 2)), (1, 1, (1, 2)))),
}


def pair(number):
    """The pair of a Fraction or an integer."""
    number = Fraction(number)
    return number.numerator, number.denominator


def pairs(numbers):
    """The tuple of the pairs of numbers."""
    return tuple(pair(number) for number in numbers)


def numbers(vector):
    """The list of the Fractions of a vector."""
    return [Fraction(*one) for one in vector]


def purse(up_at_0, up_elsewhere, up_in_a):
    """Two games of ups and downs by the rests of a purse by three; the three are chances to go up."""
    def game(ups):
        return tuple(
            tuple(sorted([((rest + 1) % 3, 1, pair(up)), ((rest - 1) % 3, -1, pair(1 - up))]))
            for rest, up in enumerate(ups)
        )
    return {"a": game([up_in_a] * 3), "b": game([up_at_0, up_elsewhere, up_elsewhere])}


# The house that is known from the literature, written down by its chances.
PAR_GAMES = purse(Fraction(19, 200), Fraction(149, 200), Fraction(99, 200))


def three_ways():
    """A house with three homes of its only game, and two standings from which these are come to."""
    return House({"a": (
        ((0, 3, (1, 1)),),
        ((2, 1, (1, 1)),),
        ((1, -2, (1, 1)),),
        ((3, -4, (1, 2)), (3, 5, (1, 2))),
        ((0, 0, (1, 2)), (1, 0, (1, 4)), (5, 7, (1, 4))),
        ((3, 1, (2, 3)), (4, 2, (1, 3))),
    )})


def some_game(source, size, most_moves=4, gains=3, sparse=True):
    """A game by a random source with a fixed seed."""
    game = []
    for _ in range(size):
        kinds = [(to, gain) for to in range(size) for gain in range(-gains, gains + 1)]
        kinds = sorted(source.sample(kinds, source.randint(1, min(most_moves, len(kinds)))))
        if sparse and source.random() < 0.4:
            kinds = kinds[:1]
        parts = [source.randint(1, 5) for _ in kinds]
        game.append(tuple((to, gain, pair(Fraction(part, sum(parts)))) for (to, gain), part in zip(kinds, parts)))
    return tuple(game)


def some_houses(seed, many, sizes=(1, 2, 3, 4), games=(1, 2, 3), sparse=True):
    """Houses by a random source with a fixed seed, so that they are the same in each run."""
    source = random.Random(seed)
    for _ in range(many):
        size = source.choice(sizes)
        yield House({name: some_game(source, size, sparse=sparse) for name in "abcd"[:source.choice(games)]})


def some_rows(seed, house, many, most=5):
    """Rows of a house by a random source with a fixed seed."""
    source = random.Random(seed)
    for _ in range(many):
        yield tuple(source.choice(house.names) for _ in range(source.randint(1, most)))


def paths(house, row, standing):
    """All ways that a row can go: (chance, sum of gains, standing behind)."""
    ways = [(Fraction(1), 0, standing)]
    for name in row:
        ways = [
            (chance * Fraction(*by), gains + gain, to)
            for chance, gains, at in ways
            for to, gain, by in house[name][at]
        ]
    return ways


def chances_behind(house, row, standing):
    """The list of the chances to be at each standing behind a row."""
    found = [Fraction(0)] * house.size
    for chance, _, to in paths(house, row, standing):
        found[to] += chance
    return found


def total_of(house, row, standing):
    """The mean of the sums of gains of a row."""
    return sum(chance * gains for chance, gains, _ in paths(house, row, standing))


def homes_by_definition(house, row):
    """All lots of standings that are homes, each tried."""
    behind = [[to for to, by in enumerate(chances_behind(house, row, one)) if by] for one in range(house.size)]

    def reach(one):
        reached = {one}
        while True:
            more = {to for at in reached for to in behind[at]} | reached
            if more == reached:
                return reached
            reached = more

    found = []
    for many in range(1, house.size + 1):
        for lot in itertools.combinations(range(house.size), many):
            if all(reach(one) == set(lot) for one in lot):
                found.append(lot)
    return tuple(sorted(found))


def is_run_paper_by_definition(house, row, paper):
    """Whether the equations of a run paper hold."""
    values, weights = (numbers(vector) for vector in paper)
    for standing in range(house.size):
        behind = chances_behind(house, row, standing)
        gain = total_of(house, row, standing)
        if values[standing] != sum(by * value for by, value in zip(behind, values)):
            return False
        if values[standing] + weights[standing] != gain + sum(by * weight for by, weight in zip(behind, weights)):
            return False
    return True


def far_mean(house, row, doublings=40):
    """The mean gains a turn of very many rounds, nearly: the mean of 2 ** doublings rounds."""
    size = range(house.size)
    table = [[float(by) for by in chances_behind(house, row, one)] for one in size]
    means = [float(total_of(house, row, one)) for one in size]
    for _ in range(doublings):
        means = [(means[one] + sum(table[one][to] * means[to] for to in size)) / 2 for one in size]
        table = [[sum(table[one][at] * table[at][to] for at in size) for to in size] for one in size]
        table = [[by / sum(row_of) for by in row_of] for row_of in table]
    return [gain / len(row) for gain in means]


def places_behind(house, turns, standing):
    """The set of the places behind a run of turns."""
    places = {standing}
    for name in turns:
        places = {move[0] for one in places for move in house[name][one]}
    return places


def led_back_by(house, name, vector):
    """The list of Fractions that comes of leading back a list of Fractions by a game."""
    return [
        sum(Fraction(*by) * (gain + vector[to]) for to, gain, by in house[name][standing])
        for standing in range(house.size)
    ]


def bound_by_definition(house, weights):
    """The closing bound, by its own words."""
    vectors = [numbers(vector) for vector in weights]
    return max(
        min(max(one - by for one, by in zip(led_back_by(house, name, vector), other)) for other in vectors)
        for name in house
        for vector in vectors
    )


def all_rows(house, length):
    """All rows of a length, in Python's order."""
    return list(itertools.product(house.names, repeat=length))


def greatest_by_trying(house, length):
    """The greatest total of all rows of a length from all standings."""
    return max(total_of(house, row, standing) for row in all_rows(house, length) for standing in range(house.size))


def integers_in(value):
    """All integers in a value of tuples, dicts and strings."""
    if isinstance(value, int):
        return [value]
    if isinstance(value, str):
        return []
    if isinstance(value, dict):
        return integers_in(tuple(value.values()))
    return [one for part in value for one in integers_in(part)]


def solved_by_fractions(matrix, sums):
    """The list of Fractions that solve equations which have just one solution."""
    rows = [[Fraction(one) for one in row] + [Fraction(by)] for row, by in zip(matrix, sums)]
    for at in range(len(rows)):
        found = next(index for index in range(at, len(rows)) if rows[index][at])
        rows[at], rows[found] = rows[found], rows[at]
        rows[at] = [one / rows[at][at] for one in rows[at]]
        for index, row in enumerate(rows):
            if index != at:
                rows[index] = [one - row[at] * by for one, by in zip(row, rows[at])]
    return [row[-1] for row in rows]


def chain_homes(table):
    """The homes of a chain, as sorted lists."""
    reached = []
    for one in range(len(table)):
        seen, waiting = {one}, [one]
        while waiting:
            for to, by in enumerate(table[waiting.pop()]):
                if by and to not in seen:
                    seen.add(to)
                    waiting.append(to)
        reached.append(seen)
    return sorted({tuple(sorted(seen)) for seen in reached if all(reached[one] == seen for one in seen)})


def chain_runs(table, gains):
    """The long runs of a chain of Fractions: by the shares of its homes, and by the chances to come there."""
    homes = chain_homes(table)
    runs = {}
    for home in homes:
        matrix = [[table[one][to] - (one == to) for one in home] for to in home[1:]] + [[1] * len(home)]
        shares = solved_by_fractions(matrix, [0] * (len(home) - 1) + [1])
        for one in home:
            runs[one] = sum(share * gains[at] for share, at in zip(shares, home))
    away = [one for one in range(len(table)) if one not in runs]
    matrix = [[(one == to) - table[one][to] for to in away] for one in away]
    sums = [sum(table[one][to] * runs[to] for to in runs) for one in away]
    runs.update(zip(away, solved_by_fractions(matrix, sums)))
    return [runs[one] for one in range(len(table))]


def moves_table(lots):
    """The table of chances and the list of mean gains of lots of moves, one for each standing."""
    table = [[sum(Fraction(*by) for to, _, by in moves if to == at) for at in range(len(lots))] for moves in lots]
    return table, [sum(gain * Fraction(*by) for _, gain, by in moves) for moves in lots]


def bent(value):
    """All values in which one fraction of this one is another fraction, greater or less by a third."""
    if isinstance(value, dict):
        for key in value:
            for part in bent(value[key]):
                yield {**value, key: part}
    elif isinstance(value, tuple) and len(value) == 2 and all(part.__class__ is int for part in value):
        yield pair(Fraction(*value) + Fraction(1, 3))
        yield pair(Fraction(*value) - Fraction(1, 3))
    elif isinstance(value, tuple):
        for at, part in enumerate(value):
            for other in bent(part):
                yield value[:at] + (other,) + value[at + 1:]
