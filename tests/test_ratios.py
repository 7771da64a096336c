"""The promises of stage 2 that belong to class Ratio."""

import unittest
from fractions import Fraction

from samples import LONGEST, NOT_FRACTIONS, NOT_INTEGERS, OTHERS, TOO_LONG
from wonbyturns.base.ratios import Ratio
from wonbyturns.errors import InvalidFraction, InvalidOperation, ParseError, TooMany

TEXTS = {
    "0": (0, 1),
    "7": (7, 1),
    "-3": (-3, 1),
    "10": (10, 1),
    "1/2": (1, 2),
    "-1/2": (-1, 2),
    "3/2": (3, 2),
    "-30/7": (-30, 7),
    "9" * 300: (LONGEST, 1),
    "-" + "9" * 300: (-LONGEST, 1),
    "1/" + "9" * 300: (1, LONGEST),
}

NO_TEXTS = (
    "-", "--1", "+1", "-0", "00", "01", "-01", "1.0", "1e3", "1_0", " 1", "1 ", "1\n", "\n1", "a", "0x1",
    "/", "1/", "/2", "1//2", "1/2/3", "1/2/", "2/4", "0/1", "0/2", "3/1", "1/0", "0/0", "1/-2", "-1/-2", "1/+2",
    "1/02", "01/2", "1 /2", "1/ 2", "1/2 ", "-0/3", "-2/4", "6/3", "\u0661", "\u00b2", "1/\u0662", "\uff11",
    "1" + "0" * 300, "-1" + "0" * 300, "1/1" + "0" * 300, "9" * 9000, "/" * 9000, "-" * 9000,
)

SMALL = [Fraction(top, bottom) for bottom in range(1, 6) for top in range(-7, 8)]


def ratio(number):
    """The Ratio of a Fraction."""
    return Ratio(number.numerator, number.denominator)


def told(value):
    """The Fraction of a Ratio, whose pair is checked to be in lowest terms."""
    number = Fraction(*value.pair)
    assert (number.numerator, number.denominator) == value.pair
    return number


class Example(unittest.TestCase):
    def test_of_the_document(self):
        half = Ratio(3, -6)
        self.assertEqual(
            [
                half.pair,
                str(half + 1),
                str(half * half),
                str(half.divided(Ratio(3))),
                str(half.power(-3)),
                half.whole,
                half.is_below(0),
                str(Ratio(1, 3).between(Ratio(1, 2))),
            ],
            [(-1, 2), "1/2", "1/4", "-1/6", "-8", -1, True, "2/5"],
        )
        with self.assertRaises(ParseError):
            Ratio.read("2/4")


class Making(unittest.TestCase):
    def test_lowest_terms(self):
        for top in range(-12, 13):
            for bottom in list(range(-12, 0)) + list(range(1, 13)):
                number = Fraction(top, bottom)
                self.assertEqual(Ratio(top, bottom).pair, (number.numerator, number.denominator))

    def test_the_bottom_is_1_if_none_is_told(self):
        self.assertEqual([Ratio(5).pair, Ratio(0).pair, Ratio(-5).pair], [(5, 1), (0, 1), (-5, 1)])

    def test_integers_of_300_digits(self):
        self.assertEqual(Ratio(LONGEST, -LONGEST).pair, (-1, 1))
        self.assertEqual(Ratio(-LONGEST, LONGEST - 1).pair, (-LONGEST, LONGEST - 1))

    def test_wrong_integers(self):
        for value in NOT_INTEGERS:
            with self.subTest(value=repr(value)[:80]):
                self.assertRaises(InvalidFraction, Ratio, value)
                self.assertRaises(InvalidFraction, Ratio, value, 2)
                self.assertRaises(InvalidFraction, Ratio, 1, value)
                self.assertRaises(InvalidFraction, Ratio, value, 0)

    def test_a_bottom_of_0(self):
        for top in (0, 1, -1, LONGEST):
            self.assertRaises(InvalidFraction, Ratio, top, 0)

    def test_integers_that_are_too_long_are_refused_even_if_they_cancel(self):
        self.assertRaises(InvalidFraction, Ratio, TOO_LONG, TOO_LONG)

    def test_of_a_pair(self):
        for pair in ((0, 1), (1, 2), (-3, 4), (LONGEST, 1), (-1, LONGEST)):
            self.assertEqual(Ratio.of(pair).pair, pair)
            self.assertIsInstance(Ratio.of(pair), Ratio)

    def test_of_what_is_no_fraction(self):
        for value in NOT_FRACTIONS:
            with self.subTest(value=repr(value)[:80]):
                self.assertRaises(InvalidFraction, Ratio.of, value)


class Texts(unittest.TestCase):
    def test_texts_are_read_and_written(self):
        for text, pair in TEXTS.items():
            with self.subTest(text=text[:80]):
                self.assertEqual(Ratio.read(text).pair, pair)
                self.assertEqual(Ratio.of(pair).text, text)
                self.assertEqual(str(Ratio.of(pair)), text)

    def test_what_is_no_text(self):
        for text in NO_TEXTS + tuple(value for value in OTHERS if value not in ("1", "1/2")) + (1, Ratio(1), (1, 2)):
            with self.subTest(text=repr(text)[:80]):
                with self.assertRaises(ParseError) as caught:
                    Ratio.read(text)
                self.assertIsNone(caught.exception.line)


class Properties(unittest.TestCase):
    def test_parts(self):
        one = Ratio(6, -4)
        self.assertEqual((one.top, one.bottom, one.pair, one.text), (-3, 2, (-3, 2), "-3/2"))

    def test_sign(self):
        self.assertEqual([Ratio(-1, 2).sign, Ratio(0, -5).sign, Ratio(-1, -LONGEST).sign], [-1, 0, 1])
        for one in (Ratio(-1, 2), Ratio(0), Ratio(1, 2)):
            self.assertIs(one.sign.__class__, int)

    def test_whole(self):
        told_wholes = [Ratio(7, 2).whole, Ratio(-7, 2).whole, Ratio(-1, 9).whole, Ratio(1, 9).whole, Ratio(-4).whole]
        self.assertEqual(told_wholes, [3, -4, -1, 0, -4])

    def test_it_never_changes(self):
        one = Ratio(1, 2)
        for name in ("top", "bottom", "pair", "text", "sign", "whole"):
            with self.assertRaises(AttributeError):
                setattr(one, name, 5)
        one += 1
        self.assertEqual(one.pair, (3, 2))
        self.assertEqual(Ratio(1, 2).pair, (1, 2))

    def test_it_is_not_iterated_over(self):
        self.assertRaises(TypeError, iter, Ratio(1, 2))
        with self.assertRaises(TypeError):
            1 in Ratio(1, 2)

    def test_operands_stay_as_they_are(self):
        one, other = Ratio(1, 2), Ratio(-2, 3)
        for result in (one + other, one - other, one * other, one.divided(other), one.power(2), -one, abs(other)):
            self.assertIsInstance(result, Ratio)
        one.between(other)
        self.assertEqual((one.pair, other.pair), ((1, 2), (-2, 3)))


class Operators(unittest.TestCase):
    def test_sums_differences_and_products(self):
        for one in SMALL:
            for other in SMALL:
                self.assertEqual(told(ratio(one) + ratio(other)), one + other)
                self.assertEqual(told(ratio(one) - ratio(other)), one - other)
                self.assertEqual(told(ratio(one) * ratio(other)), one * other)

    def test_quotients_and_comparisons(self):
        for one in SMALL:
            for other in SMALL:
                if other:
                    self.assertEqual(told(ratio(one).divided(ratio(other))), one / other)
                self.assertIs(ratio(one).is_below(ratio(other)), one < other)
                self.assertIs(ratio(one) == ratio(other), one == other)
                self.assertIs(ratio(one) != ratio(other), one != other)

    def test_integers_as_operands(self):
        for one in SMALL:
            for other in range(-3, 4):
                self.assertEqual(told(ratio(one) + other), one + other)
                self.assertEqual(told(ratio(one) - other), one - other)
                self.assertEqual(told(ratio(one) * other), one * other)
                self.assertIs(ratio(one).is_below(other), one < other)
                if other:
                    self.assertEqual(told(ratio(one).divided(other)), one / other)

    def test_signs_and_truth(self):
        for one in SMALL:
            self.assertEqual(told(-ratio(one)), -one)
            self.assertEqual(told(abs(ratio(one))), abs(one))
            self.assertIs(bool(ratio(one)), one != 0)

    def test_wrong_operands(self):
        one = Ratio(1, 2)
        for value in OTHERS + ((1, 2),):
            with self.subTest(value=repr(value)[:80]):
                self.assertRaises(InvalidOperation, lambda: one + value)
                self.assertRaises(InvalidOperation, lambda: one - value)
                self.assertRaises(InvalidOperation, lambda: one * value)
                self.assertRaises(InvalidOperation, one.divided, value)
                self.assertRaises(InvalidOperation, one.is_below, value)

    def test_division_by_0(self):
        for one in (Ratio(1, 2), Ratio(0), Ratio(-7)):
            self.assertRaises(InvalidOperation, one.divided, 0)
            self.assertRaises(InvalidOperation, one.divided, Ratio(0))

    def test_equality_accepts_every_value(self):
        for value in NOT_INTEGERS + (0, 1, (1, 1)):
            equal = isinstance(value, Ratio) and value.pair == (1, 1)
            self.assertIs(Ratio(1) == value, equal)
            self.assertIs(Ratio(1) != value, not equal)
        self.assertIs(Ratio(0) == 0, False)
        self.assertIs(Ratio(2, 4) == Ratio(1, 2), True)


class Powers(unittest.TestCase):
    def test_powers(self):
        for one in (Fraction(-2, 3), Fraction(1, 7), Fraction(-1), Fraction(5)):
            for exponent in range(-30, 31):
                self.assertEqual(told(ratio(one).power(exponent)), one ** exponent)

    def test_powers_of_0(self):
        self.assertEqual([Ratio(0).power(exponent).pair for exponent in (0, 1, 30)], [(1, 1), (0, 1), (0, 1)])
        for exponent in (-1, -30):
            self.assertRaises(InvalidOperation, Ratio(0).power, exponent)

    def test_exponents_beyond(self):
        for exponent in (31, -31, 300, LONGEST, -LONGEST):
            for one in (Ratio(1), Ratio(0), Ratio(2, 3)):
                self.assertRaises(InvalidOperation, one.power, exponent)

    def test_wrong_exponents(self):
        for value in NOT_INTEGERS + ((1, 2),):
            with self.subTest(value=repr(value)[:80]):
                self.assertRaises(InvalidOperation, Ratio(1, 2).power, value)


class Between(unittest.TestCase):
    def simplest(self, low, high):
        """The fraction that the document tells, found by trying all bottoms."""
        bottom = 1
        while True:
            tops = range((low * bottom).__floor__() + 1, (high * bottom).__ceil__())
            if tops:
                return Fraction(min(tops, key=abs), bottom)
            bottom += 1

    def test_the_least_bottom_and_then_the_least_top(self):
        numbers = sorted(set(SMALL + [Fraction(9, 16), Fraction(5, 9), Fraction(-99, 98), Fraction(-98, 97)]))
        for at, low in enumerate(numbers):
            for high in numbers[at + 1:]:
                expected = self.simplest(low, high)
                self.assertEqual(told(ratio(low).between(ratio(high))), expected)
                self.assertEqual(told(ratio(high).between(ratio(low))), expected)

    def test_integers_between(self):
        found = [
            Ratio(-9, 2).between(Ratio(7, 2)),
            Ratio(0).between(Ratio(7, 2)),
            Ratio(-7, 2).between(Ratio(0)),
            Ratio(2).between(Ratio(9)),
            Ratio(-9).between(Ratio(-2)),
            Ratio(0).between(Ratio(1)),
            Ratio(-1).between(Ratio(0)),
            Ratio(5).between(Ratio(6)),
        ]
        self.assertEqual([one.text for one in found], ["0", "1", "-1", "3", "-3", "1/2", "-1/2", "11/2"])

    def test_small_ends(self):
        self.assertEqual(Ratio(0).between(Ratio(1, LONGEST - 1)).pair, (1, LONGEST))
        self.assertEqual(Ratio(0).between(Ratio(-1, LONGEST - 1)).pair, (-1, LONGEST))
        self.assertRaises(TooMany, Ratio(0).between, Ratio(1, LONGEST))

    def test_long_ends(self):
        for step in range(1, 60):
            one = Fraction(LONGEST // 7 + step ** 50, LONGEST // (2 * step + 1))
            other = one + Fraction(step - 30, 10 ** (5 * step + 10)) if step != 30 else one + Fraction(1, 3)
            other = other.limit_denominator(10 ** 290)
            low, high = min(one, other), max(one, other)
            found = told(ratio(one).between(ratio(other)))
            self.assertTrue(low < found < high)
            top, bottom = found.numerator, found.denominator
            if bottom > 1:
                # Each simpler fraction lies beyond one of the two neighbours of the found one.
                left_bottom = pow(top, -1, bottom)
                left_top = (top * left_bottom - 1) // bottom
                self.assertTrue(left_top <= low * left_bottom)
                self.assertTrue(top - left_top >= high * (bottom - left_bottom))

    def test_many_steps(self):
        row = [1, 1]
        while row[-1] + row[-2] < TOO_LONG:
            row.append(row[-1] + row[-2])
        low, high = Ratio(row[-4], row[-3]), Ratio(row[-3], row[-2])
        self.assertEqual(low.between(high).pair, (row[-2], row[-1]))
        self.assertRaises(TooMany, high.between, Ratio(row[-2], row[-1]))

    def test_wrong_ends(self):
        for value in OTHERS + (0, 1, (1, 3)):
            with self.subTest(value=repr(value)[:80]):
                self.assertRaises(InvalidOperation, Ratio(1, 2).between, value)

    def test_equal_ends(self):
        self.assertRaises(InvalidOperation, Ratio(1, 2).between, Ratio(2, 4))


class TooLong(unittest.TestCase):
    def assert_too_many(self, call, *arguments):
        with self.assertRaises(TooMany) as caught:
            call(*arguments)
        self.assertEqual(caught.exception.limit, 300)

    def test_results_with_too_long_integers(self):
        longest, tiny = Ratio(LONGEST), Ratio(1, LONGEST)
        self.assert_too_many(lambda: longest + 1)
        self.assert_too_many(lambda: -longest - 1)
        self.assert_too_many(lambda: longest * 2)
        self.assert_too_many(lambda: tiny + Ratio(1, 2))
        self.assert_too_many(lambda: tiny * tiny)
        self.assert_too_many(longest.divided, Ratio(1, 2))
        self.assert_too_many(tiny.divided, 2)
        self.assert_too_many(tiny.divided, -2)
        self.assert_too_many(longest.power, 2)
        self.assert_too_many(tiny.power, -2)
        self.assert_too_many(longest.power, 30)
        self.assert_too_many(Ratio(LONGEST, LONGEST - 1).power, -30)
        self.assert_too_many(Ratio(10).power(10).power, 30)
        self.assert_too_many(Ratio(1, LONGEST).between, Ratio(1, LONGEST - 1))

    def test_results_of_300_digits(self):
        almost, tiny = Ratio(LONGEST - 1), Ratio(1, LONGEST)
        self.assertEqual((almost + 1).top, LONGEST)
        self.assertEqual((-almost - 1).top, -LONGEST)
        self.assertEqual(tiny.power(-1).pair, (LONGEST, 1))
        self.assertEqual(abs(-Ratio(LONGEST)).pair, (LONGEST, 1))
        self.assertEqual((-Ratio(-LONGEST)).pair, (LONGEST, 1))
        self.assertEqual(Ratio(10).power(29).power(10).divided(Ratio(1, 10 ** 9)).pair, (10 ** 299, 1))
        self.assertEqual(Ratio(10 ** 10).power(29).bottom, 1)

    def test_integers_that_cancel_are_not_too_long(self):
        longest, tiny = Ratio(LONGEST), Ratio(1, LONGEST)
        self.assertEqual((longest * tiny).pair, (1, 1))
        self.assertEqual((tiny - tiny).pair, (0, 1))
        self.assertEqual((tiny + Ratio(LONGEST - 1, LONGEST)).pair, (1, 1))
        self.assertEqual(longest.divided(longest).pair, (1, 1))
        self.assertEqual(tiny.divided(tiny).pair, (1, 1))

    def test_comparisons_have_no_results_that_are_too_long(self):
        self.assertIs(Ratio(LONGEST - 1, LONGEST).is_below(Ratio(LONGEST, LONGEST - 1)), True)
        self.assertIs(Ratio(LONGEST, LONGEST - 1).is_below(Ratio(LONGEST - 1, LONGEST)), False)


if __name__ == "__main__":
    unittest.main()
