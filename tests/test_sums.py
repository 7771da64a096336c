"""The promises of stage 2 on tuples of fractions."""

import unittest
from fractions import Fraction

from samples import LONGEST, NOT_FRACTIONS, OTHERS
from wonbyturns.base.ratios import Ratio, added, greatest, in_order, least, mean
from wonbyturns.errors import InvalidFraction, InvalidOperation, TooMany

MIXED = ((1, 2), (-1, 1), (1, 3), (1, 2), (0, 1), (-7, 2), (2, 1), (-7, 2), (10, 21), (11, 23), (10, 1))

# Neighbours with long bottoms, which are nearer to each other than anything with short ones.
NEIGHBOURS = ((LONGEST - 2, LONGEST - 1), (LONGEST - 1, LONGEST))

HALVES = ((1, 2), (1, 2))


def pair(number):
    """The pair of a Fraction."""
    return number.numerator, number.denominator


class WrongPairs(unittest.TestCase):
    def assert_refused(self, call):
        """What is no tuple of fractions is refused."""
        for value in OTHERS + ((1, 2), Ratio(1, 2), 0, 1):
            if value != () and value != ((1, 2),):
                with self.subTest(value=repr(value)[:80]):
                    self.assertRaises(InvalidFraction, call, value)
        for value in NOT_FRACTIONS:
            with self.subTest(value=repr(value)[:80]):
                self.assertRaises(InvalidFraction, call, (value,))
                self.assertRaises(InvalidFraction, call, ((1, 2), value))
        self.assertRaises(InvalidFraction, call, [(1, 2), (1, 3)])
        self.assertRaises(InvalidFraction, call, {(1, 2): (1, 3)})

    def test_every_function(self):
        for call in (added, in_order, least, greatest):
            self.assert_refused(call)
        self.assert_refused(lambda value: mean(value, HALVES))
        self.assert_refused(lambda value: mean(value, ((1, 1),)))
        self.assert_refused(lambda value: mean(value, None))


class Sums(unittest.TestCase):
    def test_examples(self):
        self.assertEqual(
            [added(((1, 2), (1, 3))), mean(((1, 1), (-1, 1)), ((3, 4), (1, 4))), in_order(((1, 2), (-1, 1), (1, 3)))],
            [(5, 6), (1, 2), ((-1, 1), (1, 3), (1, 2))],
        )

    def test_sums(self):
        for many in range(len(MIXED) + 1):
            expected = sum([Fraction(*one) for one in MIXED[:many]], Fraction(0))
            self.assertEqual(added(MIXED[:many]), pair(expected))

    def test_the_sum_of_none(self):
        self.assertEqual(added(()), (0, 1))

    def test_sums_that_are_too_long(self):
        for pairs in (((LONGEST, 1), (1, 1)), NEIGHBOURS, ((1, LONGEST), (1, 2)), ((-LONGEST, 1), (-1, 2))):
            with self.assertRaises(TooMany) as caught:
                added(pairs)
            self.assertEqual(caught.exception.limit, 300)

    def test_only_the_result_can_be_too_long(self):
        self.assertEqual(added(((LONGEST, 1), (1, 1), (-1, 1))), (LONGEST, 1))
        self.assertEqual(added(((1, LONGEST), (1, LONGEST - 1), (-1, LONGEST))), (1, LONGEST - 1))


class Means(unittest.TestCase):
    def test_means(self):
        chances = ((1, 2), (1, 3), (0, 1), (1, 6))
        for at in range(len(MIXED) - 3):
            pairs = MIXED[at:at + 4]
            expected = sum([Fraction(*one) * Fraction(*by) for one, by in zip(pairs, chances)])
            self.assertEqual(mean(pairs, chances), pair(expected))

    def test_one_fraction(self):
        self.assertEqual(mean(((-7, 3),), ((1, 1),)), (-7, 3))

    def test_no_fraction(self):
        self.assertRaises(InvalidFraction, mean, (), ())

    def test_other_numbers_of_chances(self):
        for pairs, chances in (((), ((1, 1),)), (HALVES, ((1, 1),)), (((1, 2),), HALVES), (((1, 2),), ())):
            self.assertRaises(InvalidFraction, mean, pairs, chances)

    def test_chances_that_do_not_sum_to_1(self):
        for chances in (((1, 2), (1, 3)), ((1, 2), (2, 3)), ((0, 1), (0, 1)), ((1, 1), (1, 1)), NEIGHBOURS):
            self.assertRaises(InvalidFraction, mean, HALVES, chances)

    def test_fractions_that_are_no_chances(self):
        for chances in (((3, 2), (-1, 2)), ((-1, 1), (2, 1)), ((2, 1), (-1, 1))):
            self.assertRaises(InvalidFraction, mean, HALVES, chances)

    def test_other_chances(self):
        for value in OTHERS + NOT_FRACTIONS:
            with self.subTest(value=repr(value)[:80]):
                self.assertRaises(InvalidFraction, mean, HALVES, value)
                self.assertRaises(InvalidFraction, mean, HALVES, ((1, 1), value))
        self.assertRaises(InvalidFraction, mean, HALVES, [(1, 2), (1, 2)])

    def test_means_that_are_too_long(self):
        chances = ((1, LONGEST), (LONGEST - 1, LONGEST))
        with self.assertRaises(TooMany) as caught:
            mean(((1, 2), (1, 3)), chances)
        self.assertEqual(caught.exception.limit, 300)

    def test_only_the_result_can_be_too_long(self):
        chances = ((1, LONGEST), (LONGEST - 1, LONGEST))
        self.assertEqual(mean(((1, LONGEST), (1, LONGEST)), chances), (1, LONGEST))
        self.assertEqual(mean(((LONGEST, 1), (0, 1)), chances), (1, 1))


class Orders(unittest.TestCase):
    def test_from_the_least_to_the_greatest(self):
        expected = tuple(pair(number) for number in sorted([Fraction(*one) for one in MIXED]))
        self.assertEqual(in_order(MIXED), expected)
        self.assertEqual(in_order(MIXED[::-1]), expected)
        self.assertEqual((least(MIXED), greatest(MIXED)), ((-7, 2), (10, 1)))

    def test_equal_ones_stand_as_often_as_they_are_told(self):
        self.assertEqual(in_order(((1, 2), (0, 1), (1, 2), (1, 2))), ((0, 1), (1, 2), (1, 2), (1, 2)))

    def test_none_and_one(self):
        self.assertEqual([in_order(()), in_order(((1, 2),))], [(), ((1, 2),)])
        self.assertEqual([least(((1, 2),)), greatest(((1, 2),))], [(1, 2), (1, 2)])

    def test_the_least_and_the_greatest_of_none(self):
        self.assertRaises(InvalidOperation, least, ())
        self.assertRaises(InvalidOperation, greatest, ())

    def test_fractions_that_are_hardly_apart(self):
        turned = tuple((-top, bottom) for top, bottom in NEIGHBOURS)
        for low, high in (NEIGHBOURS, turned[::-1]):
            for pairs in ((low, high), (high, low)):
                self.assertEqual(in_order(pairs), (low, high))
                self.assertEqual((least(pairs), greatest(pairs)), (low, high))

    def test_nothing_is_changed(self):
        pairs = ((1, 2), (-1, 1))
        for call in (added, in_order, least, greatest):
            call(pairs)
        mean(pairs, HALVES)
        self.assertEqual((pairs, HALVES), (((1, 2), (-1, 1)), ((1, 2), (1, 2))))


if __name__ == "__main__":
    unittest.main()
