"""Houses: games of chance with moves between standings."""

from wonbyturns.base.pairs import pair_read, short, sum_of, text_of
from wonbyturns.base.ratios import added
from wonbyturns.base.words import is_chance, is_fraction, is_integer, is_word
from wonbyturns.errors import (
    InvalidFraction,
    InvalidGame,
    InvalidHouse,
    InvalidNumber,
    InvalidOperation,
    InvalidWord,
    ParseError,
    UnknownGame,
)

MAX_GAMES = 4
MAX_STANDINGS = 8
MAX_MOVES = 12
MAX_GAIN = 99

# How many moves can be merged at once.
MAX_MERGED = 100


def is_game(value):
    """Whether the value is a game."""
    if not isinstance(value, tuple) or not 1 <= len(value) <= MAX_STANDINGS:
        return False
    return all([are_moves_of_game(moves, len(value)) for moves in value])


def are_moves_of_game(value, size):
    """Whether the value is a tuple of moves as of a game at one of so many standings."""
    return _are_moves(value, MAX_MOVES, size) and _do_ascend(value)


def merged_moves(moves):
    """The ascending tuple of moves in which no two have the same standing behind and the same gain."""
    if not _are_moves(moves, MAX_MERGED, MAX_STANDINGS):
        raise InvalidGame("these are no moves with chances that sum to 1")
    chances = _chances_of(moves)
    if len(chances) > MAX_MOVES:
        raise InvalidGame("these are too many moves")
    return _moves_with(chances)


class House:
    """Up to four games over the same standings. It never changes."""

    def __init__(self, games):
        if not _are_games(games):
            raise InvalidHouse("these are no games over the same standings")
        self._names = tuple(sorted(games))
        self._games = {name: games[name] for name in self._names}
        self._size = len(games[self._names[0]])

    @classmethod
    def read(cls, *lines):
        """The house with these lines."""
        if not lines:
            raise ParseError(0)
        moves = [_line_read(line) for line in lines]
        for index, move in enumerate(moves):
            if move is None or (index > 0 and move[:4] <= moves[index - 1][:4]):
                raise ParseError(index)
        return cls(_games_with(moves))

    @property
    def games(self):
        """The games by their names."""
        return dict(self._games)

    @property
    def names(self):
        """The names of the games, ascending."""
        return self._names

    @property
    def lines(self):
        """The lines of all moves."""
        return tuple(
            [
                _line_of(name, standing, move)
                for name in self._names
                for standing, moves in enumerate(self._games[name])
                for move in moves
            ]
        )

    @property
    def size(self):
        """The number of standings."""
        return self._size

    @property
    def seen(self):
        """The gains of all moves, ascending."""
        return tuple(sorted({move[1] for name in self._names for moves in self._games[name] for move in moves}))

    def chance(self, name, standing, to):
        """The chance of the moves of a game from a standing to another one."""
        self._check_names(name)
        self._check_standings(standing, to)
        return added(tuple([move[2] for move in self._games[name][standing] if move[0] == to]))

    def gain(self, name, standing):
        """The mean gain of a game at a standing."""
        self._check_names(name)
        self._check_standings(standing)
        moves = self._games[name][standing]
        return short(sum_of([(gain * chance[0], chance[1]) for _, gain, chance in moves]))

    def near(self, name, standing):
        """The standings that can stand behind a move of a game from a standing, ascending."""
        self._check_names(name)
        self._check_standings(standing)
        return tuple(sorted({move[0] for move in self._games[name][standing]}))

    def gains_of(self, name):
        """The gains of a game, ascending."""
        self._check_names(name)
        return tuple(sorted({move[1] for moves in self._games[name] for move in moves}))

    def with_game(self, name, game):
        """The house with a game more, or with another one of this name."""
        if not is_word(name):
            raise InvalidWord("a name has one to eight letters from a to z")
        if not is_game(game):
            raise InvalidGame("this is no game")
        return House({**self._games, name: game})

    def without(self, *names):
        """The house without some games."""
        self._check_names(*names)
        return House({name: self._games[name] for name in self._names if name not in names})

    def renamed(self, names):
        """The house with other names of its games."""
        if not _are_new_names(names, self._names):
            raise InvalidOperation("these are not as many new names")
        return House({names[name]: self._games[name] for name in self._names})

    def reordered(self, order):
        """The house whose standing i is the standing order[i] of this one."""
        if not isinstance(order, tuple) or not all([is_integer(one) for one in order]):
            raise InvalidOperation("an order is a tuple of standings")
        if sorted(order) != list(range(self._size)):
            raise InvalidOperation("an order holds each standing once")
        games = {}
        for name in self._names:
            game = self._games[name]
            moves = [[(order.index(to), gain, chance) for to, gain, chance in game[old]] for old in order]
            games[name] = tuple([tuple(sorted(one)) for one in moves])
        return House(games)

    def paid(self, name, amount):
        """The house with so much added to each gain of a game."""
        self._check_names(name)
        if not is_integer(amount) or not -MAX_GAIN <= amount <= MAX_GAIN:
            raise InvalidNumber(amount)
        return House({**self._games, name: _with_gains(self._games[name], 1, amount)})

    def turned(self):
        """The house with each gain negated."""
        return House({name: _with_gains(self._games[name], -1, 0) for name in self._names})

    def blend(self, name, one, other, share):
        """The house with a game that is one game by a chance, and the other one otherwise."""
        if not is_word(name):
            raise InvalidWord("a name has one to eight letters from a to z")
        self._check_names(one, other)
        if not is_chance(share):
            raise InvalidFraction("a share is a fraction from 0 to 1")
        rest = share[1] - share[0], share[1]
        game = [
            _blended(_scaled(moves, share) + _scaled(others, rest))
            for moves, others in zip(self._games[one], self._games[other])
        ]
        return House({**self._games, name: tuple(game)})

    def __or__(self, other):
        if not isinstance(other, House) or self._size != other._size:
            raise InvalidOperation("the other house has as many standings")
        if any([self._games[name] != other._games[name] for name in self._names if name in other._games]):
            raise InvalidOperation("a name tells one game")
        return House({**self._games, **other._games})

    def __getitem__(self, name):
        self._check_names(name)
        return self._games[name]

    def __contains__(self, value):
        return isinstance(value, str) and value in self._games

    def __len__(self):
        return len(self._names)

    def __iter__(self):
        return iter(self._names)

    def __eq__(self, other):
        return isinstance(other, House) and self._games == other._games

    def __str__(self):
        return f"{len(self._names)} games, {self._size} standings"

    def _check_names(self, *names):
        """Raise an error for the first name that no game has."""
        for name in names:
            if name not in self:
                raise UnknownGame(name)

    def _check_standings(self, *standings):
        """Raise an error for the first value that is no standing."""
        for standing in standings:
            if not _is_standing(standing, self._size):
                raise InvalidNumber(standing)


def _is_standing(value, size):
    """Whether the value is one of so many standings."""
    return is_integer(value) and 0 <= value < size


def _is_move(value, size):
    """Whether the value is a move between so many standings."""
    if not isinstance(value, tuple) or len(value) != 3:
        return False
    to, gain, chance = value
    if not _is_standing(to, size) or not is_integer(gain) or not -MAX_GAIN <= gain <= MAX_GAIN:
        return False
    return is_fraction(chance) and chance[0] > 0


def _are_moves(value, most, size):
    """Whether the value is a tuple of at most so many moves with chances that sum to 1."""
    if not isinstance(value, tuple) or not 1 <= len(value) <= most:
        return False
    return all([_is_move(move, size) for move in value]) and sum_of([move[2] for move in value]) == (1, 1)


def _do_ascend(moves):
    """Whether moves ascend, and no two have the same standing behind and the same gain."""
    return all([one[:2] < other[:2] for one, other in zip(moves, moves[1:])])


def _are_games(value):
    """Whether the value is a dict of the games of a house by their names."""
    if not isinstance(value, dict) or not 1 <= len(value) <= MAX_GAMES:
        return False
    if not all([is_word(name) and is_game(value[name]) for name in value]):
        return False
    sizes = [len(value[name]) for name in value]
    return min(sizes) == max(sizes)


def _are_new_names(value, names):
    """Whether the value is a dict from just these names to different words."""
    if not isinstance(value, dict) or len(value) != len(names):
        return False
    if not all([name in value and is_word(value[name]) for name in names]):
        return False
    return len({value[name] for name in names}) == len(names)


def _chances_of(moves):
    """The lists of the chances of moves, by the standing behind and the gain."""
    chances = {}
    for to, gain, chance in moves:
        chances.setdefault((to, gain), []).append(chance)
    return chances


def _moves_with(chances):
    """The ascending moves with the sums of these chances."""
    return tuple([(to, gain, short(sum_of(chances[to, gain]))) for to, gain in sorted(chances)])


def _with_gains(game, factor, amount):
    """The game with all gains multiplied by 1 or -1, and with so much added to them."""
    return tuple(
        [tuple(sorted([(to, factor * gain + amount, chance) for to, gain, chance in moves])) for moves in game]
    )


def _scaled(moves, share):
    """The moves with their chances multiplied by a share; none with the share 0."""
    return [(to, gain, (chance[0] * share[0], chance[1] * share[1])) for to, gain, chance in moves if share[0] > 0]


def _blended(moves):
    """The moves of a blend at a standing, of which there can be too many."""
    chances = _chances_of(moves)
    # Too many moves are no game, however long their chances are.
    return _moves_with(chances) if len(chances) <= MAX_MOVES else None


def _line_of(name, standing, move):
    """The line of a move."""
    to, gain, chance = move
    return f"{name} {standing} {to} {gain} {text_of(chance)}"


def _line_read(line):
    """The name, the standing and the move that a line tells, in one tuple, or None if it is no line."""
    parts = line.split(" ") if isinstance(line, str) else []
    if len(parts) != 5 or not is_word(parts[0]):
        return None
    numbers = [pair_read(part) for part in parts[1:]]
    if any([number is None for number in numbers]) or any([number[1] != 1 for number in numbers[:3]]):
        return None
    standing, to, gain = [number[0] for number in numbers[:3]]
    if not _is_standing(standing, MAX_STANDINGS) or not _is_move((to, gain, numbers[3]), MAX_STANDINGS):
        return None
    return (parts[0], standing, to, gain, numbers[3]) if is_chance(numbers[3]) else None


def _games_with(moves):
    """The games with the moves of these lines."""
    games = {}
    for name, standing, to, gain, chance in moves:
        rows = games.setdefault(name, [])
        while len(rows) <= standing:
            rows.append([])
        rows[standing].append((to, gain, chance))
    return {name: tuple([tuple(row) for row in games[name]]) for name in games}
