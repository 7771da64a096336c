"""Values that several test files use."""

from wonbyturns.base.ratios import Ratio

LONGEST = 10 ** 300 - 1
TOO_LONG = 10 ** 300
VERY_LONG = 10 ** 399

# Values of every other kind that a caller may pass; none is an integer or a fraction.
OTHERS = (
    None,
    True,
    False,
    "",
    "1",
    "1/2",
    "a" * 9000,
    "one\ntwo",
    (),
    (1,),
    (1, 2, 3),
    ((1, 2),),
    [],
    [1, 2],
    {},
    {1: 2},
    {"a": (1, 2)},
    ((((((((),),),),),),),),
    TOO_LONG,
    -TOO_LONG,
    VERY_LONG,
    -VERY_LONG,
)

NOT_INTEGERS = OTHERS + ((1, 2), Ratio(1), Ratio(1, 2))

# Pairs that are no fractions, although each looks like one.
NEAR_FRACTIONS = (
    (2, 4),
    (-2, 4),
    (0, 2),
    (0, 3),
    (0, 0),
    (1, 0),
    (3, -4),
    (-3, -4),
    (True, 1),
    (1, True),
    (False, 1),
    (1, None),
    ("1", 2),
    (1, "2"),
    ((1,), 2),
    (Ratio(1), 2),
    (TOO_LONG, 1),
    (1, TOO_LONG),
    (-TOO_LONG, 1),
    [1, 2],
    {1: 1, 2: 2},
    "12",
)

NOT_FRACTIONS = OTHERS + NEAR_FRACTIONS + (0, 1, -3, Ratio(1, 2))
