"""A live house: it changes by calls, but never so that a pinned saying fails."""

from wonbyturns.base.checks import check_house, check_number
from wonbyturns.base.pairs import short
from wonbyturns.base.steps import game_step
from wonbyturns.base.words import is_integer
from wonbyturns.errors import InvalidNumber, InvalidOperation, NothingToUndo, Refused, TooMany, UnknownGame
from wonbyturns.play.rounds import long_runs, runs_of
from wonbyturns.use.sayings import different_rows, does_lose, does_win, is_saying, is_true, words_of

MAX_PINS = 20
MAX_SEARCH = 5


class Project:
    """A house that is changed by calls, with its pinned sayings."""

    def __init__(self, house):
        check_house(house)
        self._house = house
        self._names = house.names
        self._pins = []
        self._ahead = []
        self._behind = []
        self._news = ()

    @property
    def house(self):
        """The house now."""
        return self._house

    @property
    def pins(self):
        """The pinned sayings, in the order in which they were pinned."""
        return tuple(self._pins)

    @property
    def depth(self):
        """The number of changes that can be taken back."""
        return len(self._ahead)

    @property
    def news(self):
        """The news of the last call that changed the house."""
        return self._news

    def put(self, name, game):
        """Put in a game, or another one of this name."""
        return self._change(self._house.with_game(name, game))

    def drop(self, name):
        """Leave out a game."""
        return self._change(self._house.without(name))

    def rename(self, names):
        """Give all games other names."""
        return self._change(self._house.renamed(names))

    def pay(self, name, amount):
        """Add so much to each gain of a game."""
        return self._change(self._house.paid(name, amount))

    def mix(self, name, one, other, share):
        """Put in a game that is one game by a chance, and another one otherwise."""
        return self._change(self._house.blend(name, one, other, share))

    def pin(self, saying):
        """Pin a saying, which has to hold from now on."""
        if not self.holds(saying):
            raise Refused(saying)
        if saying not in self._pins:
            if len(self._pins) == MAX_PINS:
                raise TooMany(MAX_PINS)
            self._pins.append(saying)

    def unpin(self, saying):
        """Let a pinned saying be one that need not hold."""
        if saying not in self:
            raise InvalidOperation("this saying is not pinned")
        self._pins.remove(saying)

    def holds(self, saying):
        """Whether a saying holds."""
        if not is_saying(saying):
            raise InvalidOperation("this is no saying")
        for word in words_of(saying):
            if word not in self._house:
                raise UnknownGame(word)
        return is_true(self._house, saying)

    def undo(self, many=1):
        """Take the last changes back."""
        _check_many(many, self._ahead)
        if many == 0:
            return ()
        # The houses that were left, from the last one on, and then the house now.
        left = (self._ahead + [self._house])[-many:]
        news = self._news_of(self._ahead[-many])
        self._become(self._ahead[-many], news)
        self._behind = self._behind + left[::-1]
        self._ahead = self._ahead[:-many]
        return news

    def redo(self, many=1):
        """Make changes again that were taken back last."""
        _check_many(many, self._behind)
        if many == 0:
            return ()
        made = ([self._house] + self._behind[::-1])[:many]
        news = self._news_of(self._behind[-many])
        self._become(self._behind[-many], news)
        self._ahead = self._ahead + made
        self._behind = self._behind[:-many]
        return news

    def alone(self):
        """The long runs of the games, played alone, by their names."""
        return {name: long_runs(self._house, (name,)) for name in self._names}

    def losing(self):
        """The names of the games that lose from each standing, played alone."""
        return tuple([name for name in self._names if does_lose(self._house, (name,))])

    def winner(self, most):
        """A row with as few turns as can be that wins from each standing, or None."""
        check_number(most, 1, MAX_SEARCH)
        for row in different_rows(self._house, most):
            if does_win(self._house, row):
                return row
        return None

    def __contains__(self, value):
        return is_saying(value) and value in self._pins

    def __len__(self):
        return len(self._names)

    def __iter__(self):
        return iter(self._names)

    def __eq__(self, other):
        return isinstance(other, Project) and self._house == other._house and self._pins == other._pins

    def __str__(self):
        return f"{len(self._names)} games, {len(self._pins)} pins, {len(self._ahead)} changes"

    def _change(self, house):
        """Let the house become another one, which can be taken back."""
        news = self._news_of(house)
        self._ahead = self._ahead + [self._house]
        self._behind = []
        self._become(house, news)
        return news

    def _become(self, house, news):
        """Take another house for the one now."""
        self._house = house
        self._names = house.names
        self._news = news

    def _news_of(self, house):
        """The news if the house becomes another one, unless a pinned saying does not hold for it."""
        for saying in self._pins:
            if not is_true(house, saying):
                raise Refused(saying)
        news = []
        for name in self._names:
            if name in house:
                old, new = [runs_of(game_step(one[name]), 1) for one in (self._house, house)]
                if old != new:
                    news.append((name, tuple([short(run) for run in old]), tuple([short(run) for run in new])))
        return tuple(news)


def _check_many(value, among):
    """Raise an error unless the value is at least 0 and at most the number of these changes."""
    if not is_integer(value) or value < 0:
        raise InvalidNumber(value)
    if value > len(among):
        raise NothingToUndo(value)
