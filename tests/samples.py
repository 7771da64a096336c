"""Values that several test files use."""

from wonbyturns.base.ratios import Ratio

LONGEST = 10 ** 300 - 1
TOO_LONG = 10 ** 300
VERY_LONG = 10 ** 399

# Values of every other kind that a caller may pass; none is an integer or a fraction.
OTHERS = (
    None,
    True,
    False,
    "",
    "1",
    "1/2",
    "a" * 9000,
    "one\ntwo",
    (),
    (1,),
    (1, 2, 3),
    ((1, 2),),
    [],
    [1, 2],
    {},
    {1: 2},
    {"a": (1, 2)},
    ((((((((),),),),),),),),
    TOO_LONG,
    -TOO_LONG,
    VERY_LONG,
    -VERY_LONG,
)

NOT_INTEGERS = OTHERS + ((1, 2), Ratio(1), Ratio(1, 2))

# Pairs that are no fractions, although each looks like one.
NEAR_FRACTIONS = (
    (2, 4),
    (-2, 4),
    (0, 2),
    (0, 3),
    (0, 0),
    (1, 0),
    (3, -4),
    (-3, -4),
    (True, 1),
    (1, True),
    (False, 1),
    (1, None),
    ("1", 2),
    (1, "2"),
    ((1,), 2),
    (Ratio(1), 2),
    (TOO_LONG, 1),
    (1, TOO_LONG),
    (-TOO_LONG, 1),
    [1, 2],
    {1: 1, 2: 2},
    "12",
)

NOT_FRACTIONS = OTHERS + NEAR_FRACTIONS + (0, 1, -3, Ratio(1, 2))

# Values that are no integers from 0 to 1, of every kind; they are no standings of two and no indices.
NOT_STANDINGS = NOT_INTEGERS + (-1, 2, 8, LONGEST, -LONGEST)

# Values that are no names of a game; some of them look like one.
NOT_NAMES = OTHERS + (0, 1, "x", "C", "c ", " c", "cc", "c\n", ("c",), ["c"], {"c": 1}, Ratio(1))


def refused(case, error, call, *arguments, **kept):
    """A call raises just this error, which keeps these values."""
    with case.assertRaises(error) as caught:
        call(*arguments)
    case.assertIs(caught.exception.__class__, error)
    for name, value in kept.items():
        found = getattr(caught.exception, name)
        case.assertTrue(found is value or (found.__class__ is int and found == value), name)
