"""Wide games: at each turn any of several alternatives can come."""

from wonbyturns.base.checks import check_house
from wonbyturns.base.houses import MAX_GAMES, MAX_STANDINGS, House, are_moves_of_game
from wonbyturns.base.pairs import short
from wonbyturns.base.words import is_integer, is_vector, is_word
from wonbyturns.errors import InvalidHouse, InvalidNumber, InvalidOperation, InvalidRow, UnknownGame
from wonbyturns.free.choosing import best_chosen, best_paper, differences, turn_of

MAX_ALTERNATIVES = 3

SIDES = ("least", "greatest")
TURN_NAMES = ("ta", "tb", "tc", "td")


def is_wide_game(value):
    """Whether the value is a wide game."""
    if not isinstance(value, tuple) or not 1 <= len(value) <= MAX_STANDINGS:
        return False
    return all([_are_alternatives(lots, len(value)) for lots in value])


class WideHouse:
    """Up to four wide games over the same standings. It never changes."""

    def __init__(self, games):
        if not _are_wide_games(games):
            raise InvalidHouse("these are no wide games over the same standings")
        self._names = tuple(sorted(games))
        self._games = {name: games[name] for name in self._names}

    @property
    def games(self):
        """The wide games by their names."""
        return dict(self._games)

    @property
    def names(self):
        """The names of the wide games, ascending."""
        return self._names

    @property
    def standings(self):
        """The number of standings."""
        return len(self._games[self._names[0]])

    @property
    def widths(self):
        """How many alternatives each standing has, by the names of the wide games."""
        return {name: tuple([len(lots) for lots in self._games[name]]) for name in self._names}

    def played(self, picks):
        """The house with one alternative for each game and standing."""
        if not isinstance(picks, dict) or len(picks) != len(self._names):
            raise InvalidOperation("picks are told for each game")
        if not all([name in picks and _are_picks(self._games[name], picks[name]) for name in self._names]):
            raise InvalidOperation("picks are the indices of alternatives by standings")
        return House({name: _picked_game(self._games[name], picks[name]) for name in self._names})

    def tight(self):
        """Whether each standing of each game has one alternative."""
        return all([len(lots) == 1 for name in self._names for lots in self._games[name]])

    def with_alternative(self, name, standing, moves):
        """The wide house with an alternative more."""
        self._check_name(name)
        if not is_integer(standing) or not 0 <= standing < self.standings:
            raise InvalidNumber(standing)
        game = list(self._games[name])
        game[standing] = game[standing] + (moves,)
        return WideHouse({**self._games, name: tuple(game)})

    def __getitem__(self, name):
        self._check_name(name)
        return self._games[name]

    def __contains__(self, value):
        return isinstance(value, str) and value in self._games

    def __len__(self):
        return len(self._names)

    def __iter__(self):
        return iter(self._names)

    def __eq__(self, other):
        return isinstance(other, WideHouse) and self._games == other._games

    def __str__(self):
        return f"{len(self._names)} wide games, {self.standings} standings"

    def _check_name(self, name):
        """Raise an error unless a wide game has this name."""
        if name not in self:
            raise UnknownGame(name)


def widened(house):
    """The wide house in which each game has its own moves as the only alternatives."""
    check_house(house)
    return WideHouse({name: tuple([(moves,) for moves in house[name]]) for name in house})


def widened_by(house, other):
    """The wide house in which the games of the second house are further alternatives, where they differ."""
    check_house(house)
    check_house(other)
    if house.names != other.names or house.size != other.size:
        raise InvalidOperation("the houses have the same names and standings")
    games = {}
    for name in house:
        games[name] = tuple([
            (moves,) if moves == others else (moves, others)
            for moves, others in zip(house[name], other[name])
        ])
    return WideHouse(games)


def is_choice(wide, row, value):
    """Whether the value is a choice for a row."""
    _check_wide_row(wide, row)
    if not isinstance(value, tuple) or len(value) != len(row):
        return False
    return all([_are_picks(wide[name], picks) for name, picks in zip(row, value)])


def chosen_house(wide, row, choice):
    """The house of the games that are played at the turns by a choice."""
    _check_choice(wide, row, choice)
    games = [_picked_game(wide[name], picks) for name, picks in zip(row, choice)]
    return House(dict(zip(TURN_NAMES, games)))


def chosen_row(wide, row):
    """The names of the games that are played at the turns by a choice."""
    _check_wide_row(wide, row)
    return TURN_NAMES[:len(row)]


def least_runs(wide, row):
    """The least long runs by any choice, from all standings."""
    return tuple([short(one) for one in _exact_runs(wide, row, "least")])


def greatest_runs(wide, row):
    """The greatest long runs by any choice, from all standings."""
    return tuple([short(one) for one in _exact_runs(wide, row, "greatest")])


def wide_paper(wide, row, side):
    """A choice, values and weights which show the least or the greatest runs."""
    _check_side(wide, row, side)
    picks, values, weights = best_paper(_turns_of(wide, row, side))
    choice = tuple([tuple(own) for own in picks])
    return choice, _told(values, side), _told(weights, side)


def is_wide_paper(wide, row, side, value):
    """Whether the value is a choice, values and weights which show the least or the greatest runs."""
    _check_side(wide, row, side)
    if not isinstance(value, tuple) or len(value) != 3 or not is_choice(wide, row, value[0]):
        return False
    choice, *tables = value
    for table in tables:
        if not isinstance(table, tuple) or len(table) != len(row):
            return False
        if not all([is_vector(vector, wide.standings) for vector in table]):
            return False
    turns = _turns_of(wide, row, side)
    values, weights = [[_turned(vector, side) for vector in table] for table in tables]
    return all([_shows_turn(turns, values, weights, choice, at) for at in range(len(row))])


def surely(wide, row):
    """What a row does by all choices, as one word for each standing."""
    return tuple([_sure_word(low, high) for low, high in _tops(wide, row)])


def possibly(wide, row):
    """What a row does by some choice, as ascending words for each standing."""
    return tuple([_possible_words(low, high) for low, high in _tops(wide, row)])


def _are_alternatives(value, size):
    """Whether the value is a tuple of different alternatives for one of so many standings."""
    if not isinstance(value, tuple) or not 1 <= len(value) <= MAX_ALTERNATIVES:
        return False
    return all([are_moves_of_game(moves, size) for moves in value]) and len(set(value)) == len(value)


def _are_wide_games(value):
    """Whether the value is a dict of the games of a wide house by their names."""
    if not isinstance(value, dict) or not 1 <= len(value) <= MAX_GAMES:
        return False
    if not all([is_word(name) and is_wide_game(value[name]) for name in value]):
        return False
    sizes = [len(value[name]) for name in value]
    return min(sizes) == max(sizes)


def _are_picks(game, value):
    """Whether the value is a tuple of indices of alternatives by standings."""
    if not isinstance(value, tuple) or len(value) != len(game):
        return False
    return all([is_integer(index) and 0 <= index < len(lots) for index, lots in zip(value, game)])


def _picked_game(game, picks):
    """The game with these alternatives of a wide game."""
    return tuple([lots[index] for lots, index in zip(game, picks)])


def _check_wide_row(wide, row):
    """Raise an error unless the first value is a wide house, and the second one a row of at most four names."""
    if not isinstance(wide, WideHouse):
        raise InvalidHouse("this is no wide house")
    if not isinstance(row, tuple) or not 1 <= len(row) <= len(TURN_NAMES):
        raise InvalidRow("a row has one to four names")
    if not all([name in wide for name in row]):
        raise InvalidRow("a row has names of wide games")


def _check_choice(wide, row, value):
    """Raise an error unless the values are a wide house, a row and a choice for it."""
    if not is_choice(wide, row, value):
        raise InvalidOperation("this is no choice for the row")


def _check_side(wide, row, value):
    """Raise an error unless the values are a wide house, a row and a side."""
    _check_wide_row(wide, row)
    if not isinstance(value, str) or value not in SIDES:
        raise InvalidOperation("a side is least or greatest")


def _turns_of(wide, row, side):
    """The turns of a row, with each gain negated for the least runs."""
    turns = [turn_of(wide[name]) for name in row]
    if side == "greatest":
        return turns
    return [
        ([[(chances, -gain) for chances, gain in own] for own in options], bottom)
        for options, bottom in turns
    ]


def _turned(vector, side):
    """The vector, negated for the least runs."""
    return tuple([(top, bottom) if side == "greatest" else (-top, bottom) for top, bottom in vector])


def _told(table, side):
    """Fractions by turns and standings, negated for the least runs, unless a number is too long."""
    return tuple([tuple([short(one) for one in _turned(vector, side)]) for vector in table])


def _exact_runs(wide, row, side):
    """The least or the greatest runs, however long their numbers are."""
    _check_wide_row(wide, row)
    return _turned(best_chosen(_turns_of(wide, row, side))[1][0], side)


def _shows_turn(turns, values, weights, choice, at):
    """Whether at a turn no alternative is greater, and the chosen ones are exact."""
    for pick, (falls, needs) in zip(choice[at], differences(turns, values, weights, at)):
        if min([top for top, _ in falls]) < 0 or max([top for top, _ in needs]) > 0:
            return False
        if falls[pick][0] != 0 or needs[pick][0] != 0:
            return False
    return True


def _tops(wide, row):
    """The tops of the least and of the greatest run from each standing."""
    low, high = [_exact_runs(wide, row, side) for side in SIDES]
    return [(one[0], other[0]) for one, other in zip(low, high)]


def _sure_word(low, high):
    """What all runs do that lie from the one to the other."""
    if low > 0:
        return "wins"
    if high < 0:
        return "loses"
    return "even" if low == high else "open"


def _possible_words(low, high):
    """What some run does that is the one, or the other, or lies between."""
    words = [("even", low <= 0 <= high), ("loses", low < 0), ("wins", high > 0)]
    return tuple([word for word, holds in words if holds])
