"""Purses, which rise and fall by one, and the games that these make."""

from wonbyturns.base.chains import values_of
from wonbyturns.base.houses import House, is_game
from wonbyturns.base.pairs import lowest, minus, short, sum_of
from wonbyturns.base.papers import is_paper_of, paper_of
from wonbyturns.base.steps import game_step
from wonbyturns.base.words import is_chance, is_fraction, is_integer
from wonbyturns.errors import InvalidFraction, InvalidGame, InvalidNumber, InvalidOperation

MAX_RESTS = 8
MAX_LAST = 3

ONE = (1, 1)
HALF = (1, 2)


def is_purse(ups, downs):
    """Whether the values tell a purse game by their chances to rise and to fall."""
    if not _are_chances(ups) or not _are_chances(downs) or len(ups) != len(downs):
        return False
    return 1 <= len(ups) <= MAX_RESTS and all([_stay(up, down)[0] >= 0 for up, down in zip(ups, downs)])


def purse_game(ups, downs):
    """The game of a purse, with its rests as standings."""
    _check_purse(ups, downs)
    return _shortened(_purse_moves(ups, downs))


def ups_of(game):
    """The chances to rise and to fall by which a game is that of a purse."""
    if not is_game(game):
        raise InvalidGame("this is no game")
    ups = tuple([_chance_of(moves, 1) for moves in game])
    downs = tuple([_chance_of(moves, -1) for moves in game])
    if not is_purse(ups, downs) or _purse_moves(ups, downs) != game:
        raise InvalidGame("this is the game of no purse")
    return ups, downs


def products(ups, downs):
    """The product of the chances to rise, and that of the chances to fall."""
    _check_purse(ups, downs)
    return short(_product(ups)), short(_product(downs))


def verdict(ups, downs):
    """Whether a purse wins, loses or is fair, as one of these words."""
    _check_through(ups, downs)
    return _word(ups, downs)


def slope(ups, downs):
    """The long run of a purse game."""
    _check_through(ups, downs)
    return short(values_of(game_step(_purse_moves(ups, downs)))[0])


def slope_paper(ups, downs):
    """The long run of a purse game, and weights which show it."""
    _check_through(ups, downs)
    values, weights = paper_of(game_step(_purse_moves(ups, downs)))
    return values[0], weights


def is_slope_paper(ups, downs, value):
    """Whether the value is the long run of a purse game with weights which show it."""
    _check_through(ups, downs)
    if not isinstance(value, tuple) or len(value) != 2:
        return False
    run, weights = value
    return is_paper_of(game_step(_purse_moves(ups, downs)), (tuple([run for _ in ups]), weights))


def blended(one, other, share):
    """The purse that is one purse by a chance, and the other one otherwise."""
    for pair in (one, other):
        if not isinstance(pair, tuple) or len(pair) != 2 or not is_purse(pair[0], pair[1]):
            raise InvalidGame("this is no purse game")
    if len(one[0]) != len(other[0]):
        raise InvalidOperation("the purses have equally many rests")
    if not is_chance(share):
        raise InvalidFraction("a share is a fraction from 0 to 1")
    ups, downs = [
        tuple([short(chance) for chance in _blend(chances, others, share)])
        for chances, others in zip(one, other)
    ]
    return ups, downs


def by_rests(ups, downs, many):
    """The chances to rise and to fall by which the same purse is told by so many times as many rests."""
    _check_purse(ups, downs)
    if not is_integer(many) or many < 1:
        raise InvalidNumber(many)
    if len(ups) * many > MAX_RESTS:
        raise InvalidGame("a purse has at most eight rests")
    return ups * many, downs * many


def history_game(ups):
    """The game whose chances to rise are told by the last outcomes."""
    if not _are_chances(ups) or len(ups) not in [1 << last for last in range(1, MAX_LAST + 1)]:
        raise InvalidGame("chances to rise are told for the last one to three outcomes")
    size = len(ups)
    return _shortened(tuple([
        _moves_with((2 * standing % size, -1, minus(ONE, up)), ((2 * standing + 1) % size, 1, up))
        for standing, up in enumerate(ups)
    ]))


def parrondo(less):
    """The house of two games of a purse by rests of three that lose, each alone."""
    _check_less(less)
    games = {}
    for name, ups in (("a", (HALF, HALF, HALF)), ("b", ((1, 10), (3, 4), (3, 4)))):
        chances = _lowered(ups, less)
        games[name] = purse_game(chances, _rests(chances))
    return House(games)


def parrondo_by_history(less):
    """The house of two games by the last two outcomes that lose, each alone."""
    _check_less(less)
    return House({
        "a": history_game(_lowered((HALF, HALF, HALF, HALF), less)),
        "b": history_game(_lowered(((9, 10), (1, 4), (1, 4), (7, 10)), less)),
    })


def three_verdicts(low, high, up, share):
    """The verdicts of two purses by rests of three that never stay, and of the mix of both."""
    for chance in (low, high, up):
        if not is_chance(chance) or chance in ((0, 1), ONE):
            raise InvalidFraction("a chance to rise is a fraction between 0 and 1")
    if not is_chance(share):
        raise InvalidFraction("a share is a fraction from 0 to 1")
    one = (low, high, high)
    other = (up, up, up)
    return tuple([_word(ups, _rests(ups)) for ups in (one, other, _blend(one, other, share))])


def _are_chances(value):
    """Whether the value is a tuple of fractions from 0 to 1."""
    return isinstance(value, tuple) and all([is_chance(one) for one in value])


def _check_purse(ups, downs):
    """Raise an error unless the values tell a purse game."""
    if not is_purse(ups, downs):
        raise InvalidGame("this is no purse game")


def _check_through(ups, downs):
    """Raise an error unless the values tell a purse game that goes through."""
    _check_purse(ups, downs)
    if (0, 1) in ups + downs:
        raise InvalidOperation("the purse does not go through")


def _check_less(value):
    """Raise an error unless the value is a fraction from 0 on and below 1/10."""
    if not is_fraction(value) or not 0 <= 10 * value[0] < value[1]:
        raise InvalidFraction("chances are lessened by a fraction below 1/10")


def _stay(up, down):
    """The chance to stay."""
    return minus(minus(ONE, up), down)


def _rests(ups):
    """The chances to fall of a purse that never stays."""
    return tuple([minus(ONE, up) for up in ups])


def _lowered(ups, less):
    """The chances lessened by a fraction."""
    return tuple([short(minus(up, less)) for up in ups])


def _blend(some, others, share):
    """The chances by which some are taken by a chance, and the others otherwise."""
    top, bottom = share
    return [
        sum_of([(one[0] * top, one[1] * bottom), (other[0] * (bottom - top), other[1] * bottom)])
        for one, other in zip(some, others)
    ]


def _product(chances):
    """The product of chances, in lowest terms."""
    top, bottom = 1, 1
    for chance in chances:
        top, bottom = top * chance[0], bottom * chance[1]
    return lowest(top, bottom)


def _word(ups, downs):
    """Whether a purse that goes through wins, loses or is fair, as one of these words."""
    top = minus(_product(ups), _product(downs))[0]
    if top == 0:
        return "fair"
    return "wins" if top > 0 else "loses"


def _purse_moves(ups, downs):
    """The moves of a purse by its rests, however long the numbers of their chances are."""
    size = len(ups)
    return tuple([
        _moves_with(
            ((standing + 1) % size, 1, up),
            ((standing - 1) % size, -1, down),
            (standing, 0, _stay(up, down)),
        )
        for standing, (up, down) in enumerate(zip(ups, downs))
    ])


def _moves_with(*moves):
    """The ascending moves of these which have a chance."""
    return tuple(sorted([move for move in moves if move[2][0] > 0]))


def _shortened(game):
    """The game, unless a number of its chances is too long."""
    return tuple([tuple([(to, gain, short(chance)) for to, gain, chance in moves]) for moves in game])


def _chance_of(moves, gain):
    """The chance of the move with a gain, or 0."""
    found = [chance for _, own, chance in moves if own == gain]
    return found[0] if found else (0, 1)
