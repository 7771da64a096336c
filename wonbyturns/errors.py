"""All errors of the package."""


class GameError(ValueError):
    """A value that is not what the call asks for."""


class InvalidWord(GameError):
    """No word, or not one of those that are asked for."""


class InvalidFraction(GameError):
    """No fraction, or not one of those that are asked for."""


class InvalidGame(GameError):
    """No game."""


class InvalidHouse(GameError):
    """No house."""


class InvalidRow(GameError):
    """No row of the house."""


class InvalidWeights(GameError):
    """No vector or no set of weights of the house."""


class InvalidPolicy(GameError):
    """No policy of the house."""


class InvalidController(GameError):
    """No controller of the house."""


class InvalidLot(GameError):
    """No lot of the house."""


class InvalidOperation(GameError):
    """An operand or an argument with which the call cannot be carried out."""


class ParseError(GameError):
    """A text that cannot be read; `line` is the index of the wrong part, or None."""

    def __init__(self, line):
        self.line = line


class UnknownGame(KeyError):
    """The house has no game with the name `asked`."""

    def __init__(self, asked):
        self.asked = asked


class NoRow(LookupError):
    """There is no such row, or no such lot, as `wanted`."""

    def __init__(self, wanted):
        self.wanted = wanted


class NothingToUndo(IndexError):
    """There are fewer changes than the `amount` that is asked for."""

    def __init__(self, amount):
        self.amount = amount


class TooMany(OverflowError):
    """More than `limit` of what is limited."""

    def __init__(self, limit):
        self.limit = limit


class Refused(ArithmeticError):
    """The saying `cause` does not hold."""

    def __init__(self, cause):
        self.cause = cause


class InvalidNumber(RuntimeError):
    """The value `number` is not among the numbers that are asked for."""

    def __init__(self, number):
        self.number = number
