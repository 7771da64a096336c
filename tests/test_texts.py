"""Stage 15: texts of values."""

import random
import unittest
from fractions import Fraction

from reference import SEE_GAMES, SWAP_GAMES, pair
from samples import LONGEST, NEAR_FRACTIONS, OTHERS, TOO_LONG, refused
from wonbyturns.base.houses import House
from wonbyturns.base.ratios import Ratio
from wonbyturns.errors import InvalidOperation, InvalidWord, ParseError
from wonbyturns.free.controllers import row_controller
from wonbyturns.text import texts as module
from wonbyturns.text.texts import is_written, read, write

FORMS = ("fraction", "row", "vector", "vectors", "lot", "polynomial", "controller")
LONG = str(LONGEST)

# Values with their texts: ordinary ones, the least and the longest ones.
TEXTS = {
    "fraction": {
        (0, 1): "0", (-3, 1): "-3", (1, 2): "1/2", (-7, 3): "-7/3", (-LONGEST, 1): f"-{LONG}",
        (LONGEST - 1, LONGEST): f"{LONGEST - 1}/{LONG}",
    },
    "row": {
        ("a",): "a", ("a", "b"): "a b", ("b", "a", "b"): "b a b", ("abcdefgh",) * 40: " ".join(["abcdefgh"] * 40),
    },
    "vector": {
        ((0, 1),): "0", ((1, 2), (-3, 1)): "1/2 -3", ((LONGEST, 1),) * 9: " ".join([LONG] * 9),
    },
    "vectors": {
        (((0, 1),),): "0", (((1, 2), (0, 1)), ((-3, 1),)): "1/2 0; -3", (((2, 1),), ((1, 1),), ((2, 1),)): "2; 1; 2",
    },
    "polynomial": {
        (): "-", (1,): "1", (0, 0, -5): "0 0 -5", (3, -2, 1): "3 -2 1", (0,) * 50 + (LONGEST,): "0 " * 50 + LONG,
    },
}
LOTS = (
    ({"a": (1, 1)}, "a:1"),
    ({"b": (2, 3), "a": (1, 3)}, "a:1/3 b:2/3"),
    ({"a": (-5, 2), "ab": (7, 1), "b": (0, 1)}, "a:-5/2 ab:7 b:0"),
    ({"zzzzzzzz": (1, LONGEST)}, f"zzzzzzzz:1/{LONG}"),
)
CONTROLLERS = (
    ((("c", {1: 1, -1: 0}), ("d", {0: 0})), "c -1>0 1>1; d 0>0"),
    ((("a", {7: 0}),), "a 7>0"),
    ((("a", {-LONGEST: LONGEST, 10: 3, 9: 99}),) * 5, "; ".join([f"a -{LONG}>{LONG} 9>99 10>3"] * 5)),
    ((("b", {0: 4}), ("b", {0: 5})), "b 0>4; b 0>5"),
)

# Texts that are none, with the index of the first wrong item.
WRONG = {
    "fraction": (
        ("", 0), (" ", 0), ("1 ", 0), (" 1", 0), ("1/2 ", 0), ("2/4", 0), ("1/1", 0), ("-0", 0), ("+1", 0), ("01", 0),
        ("1/-2", 0), ("1/0", 0), ("0/2", 0), ("1//2", 0), ("1/2/3", 0), ("1.5", 0), ("a", 0), ("-", 0), ("1 2", 0),
        ("1\n", 0), ("1_0", 0), ("9" * 301, 0), (f"1/{'9' * 301}", 0), ("--1", 0), ("1; 2", 0),
    ),
    "row": (
        ("", 0), (" ", 0), ("a ", 1), (" a", 0), ("a  b", 1), ("A", 0), ("a B c D", 1), ("a b1", 1), ("abcdefghi", 0),
        ("a b\n", 1), ("a;b", 0), ("a; b", 0), ("-", 0), ("a -", 1), ("a 1", 1),
    ),
    "vector": (
        ("", 0), ("1 ", 1), ("1  2", 1), (" 1", 0), ("1 a", 1), ("1 2/4 x", 1), ("1/2 -0", 1), ("1; 2", 0), ("-", 0),
        ("1\n2", 0),
    ),
    "vectors": (
        ("", 0), ("1; ", 1), ("1;2", 0), ("1 ; 2", 0), ("1;  2", 1), ("1; 2 ; 3", 1), ("1 2; 3 4; x", 2), ("; 1", 0),
        ("1; 2/4; x", 1), ("-", 0), ("1;", 0),
    ),
    "lot": (
        ("", 0), ("a", 0), ("a:", 0), (":1", 0), ("a:1 ", 1), ("a:1  b:2", 1), ("a:1 a:2", 1), ("b:1 a:2", 1),
        ("a:1 c:2 b:3 x", 2), ("a:2/4", 0), ("a: 1", 0), ("a :1", 0), ("a:1:2", 0), ("A:1", 0), ("a:1 b:x a:1", 1),
        ("a:1;b:2", 0), ("ab:1 a:2", 1), ("-", 0),
    ),
    "polynomial": (
        ("", 0), ("0", 0), ("1 0", 1), ("0 0", 1), ("1 0 0", 2), ("1/2", 0), ("1 -0 2", 1), ("x 0", 0), ("1 ", 1),
        ("1  2", 1), (" 1", 0), ("- 1", 0), ("1 -", 1), ("--", 0), ("01", 0), ("1 2/1", 1), ("- ", 0), ("0 x 0", 1),
    ),
    "controller": (
        ("", 0), ("a", 0), ("a ", 0), ("a 1", 0), ("a 1>", 0), ("a >1", 0), ("a 1>-1", 0), ("a 1>-0", 0), ("a 1>2>3", 0),
        ("a 1>0 1>0", 0), ("a 1>0 0>0", 0), ("a 0>0; b", 1), ("a 0>0;b 0>0", 0), ("a 0>0; ", 1), ("a 0>0 ; b 0>0", 0),
        ("a 0>0;  b 0>0", 1), ("A 0>0", 0), ("a  0>0", 0), ("a 0 >0", 0), ("a 1/2>0", 0), ("0>0", 0), ("a 0>0; b 0>x; c", 1),
        ("a 0>01", 0), ("-", 0), ("a -0>0", 0),
    ),
}
NOT_VALUES = {
    "fraction": NEAR_FRACTIONS + ((1, 2, 3), 1, "1/2", ((1, 2),)),
    "row": ((), "a", ["a"], ("A",), ("a", None), ("a", 1), (("a",),), {"a": 1}, ("a", "")),
    "vector": ((), [(1, 2)], (1, 2), ((1, 2), (2, 4)), ((1, 2), None), (((1, 2),),), ((1, True),), ((TOO_LONG, 1),)),
    "vectors": ((), ((),), (((1, 2),), ()), [((1, 2),)], ([(1, 2)],), ((1, 2),), (((1, 2),), ((2, 4),)), (((1, 2),), None)),
    "lot": ({}, {"A": (1, 2)}, {"a": (2, 4)}, {"a": 1}, {1: (1, 2)}, {"a": (1, 2), 1: (1, 2)}, {("a",): (1, 2)},
            (("a", (1, 2)),), [("a", (1, 2))], {"a": [1, 2]}, {"a": (1, True)}),
    "polynomial": ((0,), (1, 0), [1], (1, True), (True,), (1, None), ("1",), ((1, 2),), (1, TOO_LONG), (False,), (1, "0")),
    "controller": ((), (("a", {}),), (("A", {0: 0}),), (("a", {0: -1}),), (("a", {True: 0}),), (("a", {0: True}),),
                   (("a", {0: None}),), (("a", {"0": 0}),), [("a", {0: 0})], (["a", {0: 0}],), (("a", {0: 0}, 1),),
                   (("a",),), (("a", ((0, 0),)),), (("a", {0: TOO_LONG}),), (("a", {TOO_LONG: 0}),),
                   (("a", {0: 0}), None), ("a", {0: 0}), (("a", {0: 0, None: 0}),)),
}


def all_texts():
    """The forms with values and their texts."""
    for form, found in TEXTS.items():
        for value, text in found.items():
            yield form, value, text
    for value, text in LOTS:
        yield "lot", value, text
    for value, text in CONTROLLERS:
        yield "controller", value, text


def some_value(source, form):
    """A value of a form by a random source."""
    def fraction():
        return pair(Fraction(source.randint(-30, 30), source.randint(1, 9)))

    def word():
        return "".join(source.choice("abz") for _ in range(source.randint(1, 8)))

    many = range(source.randint(1, 4))
    if form == "fraction":
        return fraction()
    if form == "row":
        return tuple(word() for _ in many)
    if form == "vector":
        return tuple(fraction() for _ in many)
    if form == "vectors":
        return tuple(tuple(fraction() for _ in range(source.randint(1, 3))) for _ in many)
    if form == "lot":
        return {word(): fraction() for _ in many}
    if form == "polynomial":
        return tuple(source.randint(-3, 3) for _ in many) + (source.choice((-1, 4)),)
    return tuple((word(), {source.randint(-9, 9): source.randint(0, 12) for _ in range(3)}) for _ in many)


class Examples(unittest.TestCase):
    def test_of_texts(self):
        self.assertEqual(
            [
                write("vectors", (((1, 2), (0, 1)), ((-3, 1),))),
                write("controller", (("c", {1: 1, -1: 0}), ("d", {0: 0}))),
                read("lot", "a:1/3 b:2/3"),
                write("polynomial", ()),
                is_written("polynomial", "1 0"),
            ],
            ["1/2 0; -3", "c -1>0 1>1; d 0>0", {"a": (1, 3), "b": (2, 3)}, "-", False],
        )


class Texts(unittest.TestCase):
    def test_each_form(self):
        self.assertEqual(module.NOTHING, "-")
        for form, value, text in all_texts():
            self.assertEqual(write(form, value), text)
            self.assertEqual(read(form, text), value)
            self.assertIs(read(form, text).__class__, value.__class__)
            self.assertIs(is_written(form, text), True)

    def test_reading_is_the_inverse_of_writing(self):
        source = random.Random(231)
        for form in FORMS:
            for _ in range(300):
                value = some_value(source, form)
                text = write(form, value)
                self.assertEqual(read(form, text), value)
                self.assertEqual(write(form, read(form, text)), text)

    def test_dicts_are_ascending(self):
        self.assertEqual(list(read("lot", "a:1 b:2 c:3")), ["a", "b", "c"])
        self.assertEqual(list(read("controller", "a -5>0 -1>1 3>0 20>9")[0][1]), [-5, -1, 3, 20])
        value = {"b": (1, 2), "a": (1, 2)}
        write("lot", value)
        self.assertEqual(list(value), ["b", "a"])

    def test_values_of_the_package(self):
        swap, see = House(SWAP_GAMES), House(SEE_GAMES)
        self.assertEqual(write("controller", row_controller(swap, ("c", "d"))), "c -1>1 1>1; d 0>0")
        self.assertEqual(write("row", see.names), "e f")

    def test_wrong_texts(self):
        for form in FORMS:
            for text, index in WRONG[form]:
                with self.subTest(form, text=text):
                    self.assertIs(is_written(form, text), False)
                    with self.assertRaises(ParseError) as caught:
                        read(form, text)
                    self.assertEqual(caught.exception.line, index)

    def test_what_is_no_string(self):
        for form in FORMS:
            for text in OTHERS + (0, b"1", ("1",), Ratio(1)):
                if not isinstance(text, str):
                    self.assertIs(is_written(form, text), False)
                    with self.assertRaises(ParseError) as caught:
                        read(form, text)
                    self.assertIs(caught.exception.line, None)

    def test_texts_with_one_sign_put_in_left_out_or_exchanged(self):
        signs = "ab01-/:>; A."
        for form, value, text in all_texts():
            if len(text) > 60:
                continue
            others = set()
            for at in range(len(text) + 1):
                others |= {text[:at] + sign + text[at:] for sign in signs}
                others |= {text[:at] + text[at + 1:]}
                others |= {text[:at] + sign + text[at + 1:] for sign in signs}
            for other in others:
                if is_written(form, other):
                    self.assertEqual(write(form, read(form, other)), other)
                    self.assertEqual(read(form, other) == value, other == text)
                else:
                    with self.assertRaises(ParseError) as caught:
                        read(form, other)
                    index = caught.exception.line
                    self.assertEqual(index, first_wrong(form, other))

    def test_values_of_no_form(self):
        for form in FORMS:
            for value in NOT_VALUES[form]:
                with self.subTest(form, value=repr(value)[:50]):
                    refused(self, InvalidOperation, write, form, value)
            for value in (None, True, 0, "", "a", Ratio(1), [], House(SWAP_GAMES), b"a"):
                refused(self, InvalidOperation, write, form, value)
        for value in OTHERS:
            for form in FORMS:
                right = (form, value) in [("polynomial", ()), ("polynomial", (1,)), ("polynomial", (1, 2, 3))]
                right = right or (form == "vector" and value == ((1, 2),)) or (form == "lot" and value == {"a": (1, 2)})
                if not right:
                    refused(self, InvalidOperation, write, form, value)

    def test_wrong_forms(self):
        for form in OTHERS + (0, "Fraction", "fraction ", "word", "house", ("row",), b"row"):
            refused(self, InvalidWord, write, form, None)
            refused(self, InvalidWord, read, form, None)
            refused(self, InvalidWord, is_written, form, None)

    def test_no_shared_state(self):
        read("lot", "a:1")["a"] = None
        self.assertEqual(read("lot", "a:1"), {"a": (1, 1)})


def first_wrong(form, text):
    """The index of the first item of a text that makes it none, found by texts of its first items."""
    parts = [text] if form == "fraction" else text.split("; " if form in ("vectors", "controller") else " ")
    for index, part in enumerate(parts):
        before = parts[index - 1:index] if form == "lot" else []
        if form == "polynomial":
            # An item may be 0 where another one stands behind it.
            alone = "1 " + part + " 1" if index < len(parts) - 1 else part
            if part == "-" or not is_written(form, alone):
                return index
        elif not is_written(form, " ".join(before + [part])):
            return index
    return None


if __name__ == "__main__":
    unittest.main()
