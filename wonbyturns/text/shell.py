"""A shell: a house that is asked and changed by lines."""

from wonbyturns.above.best import Best, fewest_turns, won_by_turns
from wonbyturns.above.weights import ceiling, weights_of
from wonbyturns.base.houses import House
from wonbyturns.base.pairs import pair_read
from wonbyturns.base.words import is_word
from wonbyturns.errors import (
    InvalidFraction,
    InvalidHouse,
    InvalidLot,
    InvalidNumber,
    InvalidOperation,
    InvalidRow,
    NoRow,
    ParseError,
    TooMany,
    UnknownGame,
)
from wonbyturns.free.policies import best_policy, best_runs
from wonbyturns.lots.mixes import lot_runs
from wonbyturns.play.mixing import is_mixing
from wonbyturns.play.rounds import homes, long_runs
from wonbyturns.play.rows import row_totals
from wonbyturns.text.texts import is_written, read, write

# A number in a command has at most three digits.
MAX_NUMBER = 999


class Shell:
    """A house, or none at first, with the lines by which it was asked and changed."""

    def __init__(self):
        self._house = None
        self._kept = []

    @property
    def house(self):
        """The house now, or None."""
        return self._house

    @property
    def kept(self):
        """The lines so far that were not answered by an error."""
        return tuple(self._kept)

    def run(self, line):
        """The answer to a line."""
        _check_lines(line)
        house, answer = _outcome(self._house, line)
        if house is not None:
            self._house = house
            self._kept.append(line)
        return answer

    def run_all(self, *lines):
        """The answers to some lines, one after the other."""
        _check_lines(*lines)
        return tuple([self.run(line) for line in lines])

    def __len__(self):
        return len(self._kept)

    def __iter__(self):
        return iter(self._kept)

    def __eq__(self, other):
        return isinstance(other, Shell) and self._kept == other._kept

    def __str__(self):
        return f"{len(self._kept)} lines, {self._how_many()}"

    def _how_many(self):
        """How many games the house has."""
        return "no house" if self._house is None else f"{len(self._house)} games"


def _check_lines(*lines):
    """Raise an error if a value is no string."""
    for line in lines:
        if not isinstance(line, str):
            raise InvalidOperation("a line is a string")


def _outcome(house, line):
    """The house behind a line and the answer to it; no house if this is an error."""
    wrong = "InvalidOperation"
    try:
        return _answered(house, line)
    except ParseError:
        wrong = "ParseError"
    except InvalidHouse:
        wrong = "InvalidHouse"
    except InvalidRow:
        wrong = "InvalidRow"
    except InvalidLot:
        wrong = "InvalidLot"
    except InvalidFraction:
        wrong = "InvalidFraction"
    except InvalidNumber:
        wrong = "InvalidNumber"
    except UnknownGame:
        wrong = "UnknownGame"
    except TooMany:
        wrong = "TooMany"
    except InvalidOperation:
        pass
    return None, f"error {wrong}"


def _answered(house, line):
    """The house behind a line and the answer to it."""
    word, arguments = _command_in(line)
    if word == "house":
        return House.read(*arguments), "ok"
    if house is None:
        raise InvalidOperation("there is no house")
    if word in CHANGES:
        change = CHANGES[word]
        return change(house, *arguments), "ok"
    answer = ANSWERS[word]
    return house, answer(house, *arguments)


def _command_in(line):
    """The word of a command, and what its items tell."""
    word, blank, rest = line.partition(" ")
    if word == "house":
        return word, rest.split("; ")
    if word not in KINDS:
        raise ParseError(None)
    kinds = KINDS[word]
    parts = []
    if blank:
        parts = [rest] if kinds in (("row",), ("lot",)) else rest.split(" ")
    arguments = [_argument(kind, part) for kind, part in zip(kinds, parts)]
    if len(parts) != len(kinds) or not all([argument is not None for argument in arguments]):
        raise ParseError(None)
    return word, arguments


def _argument(kind, text):
    """What an item of this kind tells, or None if it is none."""
    if kind == "word":
        return text if is_word(text) else None
    if kind == "number" or kind == "amount":
        pair = pair_read(text)
        low = 0 if kind == "number" else -MAX_NUMBER
        return pair[0] if pair is not None and pair[1] == 1 and low <= pair[0] <= MAX_NUMBER else None
    return read(kind, text) if is_written(kind, text) else None


def _drop(house, name):
    """The house without a game."""
    return house.without(name)


def _pay(house, name, amount):
    """The house with so much added to each gain of a game."""
    return house.paid(name, amount)


def _turn(house):
    """The house with each gain negated."""
    return house.turned()


def _blend(house, name, one, other, share):
    """The house with a game that is one game by a chance, and the other one otherwise."""
    return house.blend(name, one, other, share)


def _show(house):
    """The lines of a house."""
    return "; ".join(house.lines)


def _totals(house, row):
    """The totals of a row."""
    return write("vector", row_totals(house, row))


def _run(house, row):
    """The long runs of a row."""
    return write("vector", long_runs(house, row))


def _homes(house, row):
    """The homes of a row."""
    return "; ".join([" ".join([str(one) for one in home]) for home in homes(house, row)])


def _mixes(house):
    """Whether a house mixes."""
    return _yes_or_no(is_mixing(house))


def _ceiling(house, length):
    """The ceiling of a length."""
    return write("fraction", ceiling(house, length))


def _above(house, length):
    """A set of weights that is closed for the ceiling of a length."""
    return write("vectors", weights_of(house, length))


def _best(house, most, standing):
    """The first best row and its run."""
    best = Best(house, most, standing)
    row, run = write("row", best.row), write("fraction", best.top)
    return f"{row} : {run}"


def _won(house, most, standing):
    """Whether a house is won by turns."""
    return _yes_or_no(won_by_turns(house, most, standing))


def _fewest(house, most, standing):
    """How many turns the first row has that wins."""
    try:
        return str(fewest_turns(house, most, standing))
    except NoRow:
        return "none"


def _free(house):
    """The best runs of free choosing."""
    return write("vector", best_runs(house))


def _policy(house):
    """A policy that has the best runs."""
    return write("row", best_policy(house))


def _lot(house, lot):
    """The long runs by lot."""
    return write("vector", lot_runs(house, lot))


def _yes_or_no(value):
    """The word for a truth."""
    return "yes" if value else "no"


# What stands behind the word of each command, but for that with a house.
KINDS = {
    "show": (),
    "drop": ("word",),
    "pay": ("word", "amount"),
    "turn": (),
    "blend": ("word", "word", "word", "fraction"),
    "totals": ("row",),
    "run": ("row",),
    "homes": ("row",),
    "mixes": (),
    "ceiling": ("number",),
    "above": ("number",),
    "best": ("number", "number"),
    "won": ("number", "number"),
    "fewest": ("number", "number"),
    "free": (),
    "policy": (),
    "lot": ("lot",),
}

CHANGES = {"drop": _drop, "pay": _pay, "turn": _turn, "blend": _blend}

ANSWERS = {
    "show": _show,
    "totals": _totals,
    "run": _run,
    "homes": _homes,
    "mixes": _mixes,
    "ceiling": _ceiling,
    "above": _above,
    "best": _best,
    "won": _won,
    "fewest": _fewest,
    "free": _free,
    "policy": _policy,
    "lot": _lot,
}
