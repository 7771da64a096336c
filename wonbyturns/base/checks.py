"""Checks of arguments that many calls have in common."""

from wonbyturns.base.houses import House
from wonbyturns.base.words import is_integer
from wonbyturns.errors import InvalidHouse, InvalidNumber


def check_house(value):
    """Raise an error unless the value is a house."""
    if not isinstance(value, House):
        raise InvalidHouse("this is no house")


def check_standing(house, value):
    """Raise an error unless the value is a standing of the house."""
    if not is_standing(house, value):
        raise InvalidNumber(value)


def check_number(value, low, high):
    """Raise an error unless the value is an integer from the low to the high one."""
    if not is_integer(value) or not low <= value <= high:
        raise InvalidNumber(value)


def is_standing(house, value):
    """Whether the value is a standing of the house."""
    return is_integer(value) and 0 <= value < house.size
