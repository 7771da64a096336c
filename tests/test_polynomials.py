"""Stage 11: polynomials, their values and their roots."""

import itertools
import random
import unittest
from fractions import Fraction

from reference import pair
from samples import LONGEST, NOT_FRACTIONS, OTHERS, TOO_LONG, refused
from wonbyturns.base.ratios import Ratio
from wonbyturns.errors import InvalidFraction, InvalidOperation, TooMany
from wonbyturns.lots import mixes as module
from wonbyturns.lots.mixes import is_polynomial, roots_between, value_at
from wonbyturns.lots.polynomials import common_divisor, exact_quotient, times, without_repeats

NOT_POLYNOMIALS = tuple(value for value in OTHERS if value not in ((), (1,), (1, 2, 3))) + (
    0, (0,), (1, 0), (0, 0), [1], (1, True), (True,), (1, None), ("1",), (1, TOO_LONG), (1,) * 14, (1.0,), (Ratio(1),),
)


def with_roots(*roots):
    """A polynomial with these roots and no others."""
    found = (1,)
    for root in roots:
        root = Fraction(root)
        found = times(found, (-root.numerator, root.denominator))
    return found


class Polynomials(unittest.TestCase):
    def test_what_is_a_polynomial(self):
        self.assertEqual(module.MAX_DEGREE, 12)
        for value in ((), (1,), (-3,), (0, 1), (0, 0, -2), (1,) * 13, (LONGEST,), (0,) * 12 + (-LONGEST,)):
            self.assertIs(is_polynomial(value), True)
        for value in NOT_POLYNOMIALS:
            self.assertIs(is_polynomial(value), False)

    def test_values(self):
        source = random.Random(121)
        for _ in range(200):
            polynomial = tuple(source.randint(-9, 9) for _ in range(source.randint(0, 12))) + (source.randint(1, 9),)
            x = Fraction(source.randint(-20, 20), source.randint(1, 20))
            value = sum(number * x ** power for power, number in enumerate(polynomial))
            self.assertEqual(value_at(polynomial, pair(x)), pair(value))
        self.assertEqual(value_at((), (1, 3)), (0, 1))
        self.assertEqual(value_at((7,), (1, 3)), (7, 1))
        self.assertEqual(value_at((0, 6), (1, 3)), (2, 1))
        self.assertEqual(value_at((1, 2, 4), (-1, 2)), (1, 1))
        self.assertEqual(value_at((0, LONGEST), (1, LONGEST)), (1, 1))

    def test_values_that_are_too_long(self):
        refused(self, TooMany, value_at, (0, 0, 1), (LONGEST, 1), limit=300)
        refused(self, TooMany, value_at, (1, LONGEST), (1, 1), limit=300)
        refused(self, TooMany, value_at, (0, 0, 1), (1, LONGEST), limit=300)

    def test_values_with_wrong_arguments(self):
        for polynomial in NOT_POLYNOMIALS:
            refused(self, InvalidOperation, value_at, polynomial, None)
        for x in NOT_FRACTIONS:
            refused(self, InvalidFraction, value_at, (), x)

    def test_roots_of_products(self):
        source = random.Random(122)
        for _ in range(300):
            roots = [Fraction(source.randint(-8, 8), source.randint(1, 8)) for _ in range(source.randint(1, 4))]
            repeated = roots + roots[:source.randint(0, 3)]
            polynomial = times(with_roots(*repeated), source.choice(((1,), (-3,), (1, 0, 1), (2, 1, 5))))
            low, high = sorted(source.sample([Fraction(one, 6) for one in range(-20, 21)] + roots, 2))
            if low < high:
                many = len({root for root in roots if low < root < high})
                self.assertEqual(roots_between(polynomial, pair(low), pair(high)), many)

    def test_roots_that_are_no_fractions(self):
        self.assertEqual(roots_between((-2, 0, 1), (0, 1), (2, 1)), 1)
        self.assertEqual(roots_between((-2, 0, 1), (-2, 1), (2, 1)), 2)
        self.assertEqual(roots_between((-2, 0, 1), (7, 5), (3, 2)), 1)
        self.assertEqual(roots_between((-2, 0, 1), (17, 12), (3, 2)), 0)
        self.assertEqual(roots_between((2, 0, 1), (-9, 1), (9, 1)), 0)
        # The polynomials with the cosines of equal parts of a circle for roots have all of them below 1.
        one, other = (1,), (0, 1)
        for degree in range(2, 13):
            doubled = times((0, 2), other)
            one, other = other, tuple(by - (one[at] if at < len(one) else 0) for at, by in enumerate(doubled))
            self.assertEqual(roots_between(other, (-1, 1), (1, 1)), degree)
            self.assertEqual(roots_between(other, (0, 1), (1, 1)), degree // 2)

    def test_roots_at_the_ends(self):
        polynomial = with_roots(0, 1, Fraction(1, 2), Fraction(1, 2))
        for low, high, many in (((0, 1), (1, 1), 1), ((0, 1), (1, 2), 0), ((1, 2), (1, 1), 0), ((-1, 1), (1, 1), 2)):
            self.assertEqual(roots_between(polynomial, low, high), many)
        self.assertEqual(roots_between(polynomial, (-1, 1), (2, 1)), 3)
        self.assertEqual(roots_between(with_roots(*[Fraction(1, 3)] * 12), (0, 1), (1, 1)), 1)

    def test_roots_of_constants_and_lines(self):
        self.assertEqual(roots_between((5,), (0, 1), (1, 1)), 0)
        self.assertEqual(roots_between((-1, 2), (0, 1), (1, 1)), 1)
        self.assertEqual(roots_between((-1, 2), (1, 2), (1, 1)), 0)

    def test_twelve_roots_and_long_numbers(self):
        roots = [Fraction(one, 13) for one in range(1, 13)]
        for low, high in itertools.combinations(range(14), 2):
            many = roots_between(with_roots(*roots), pair(Fraction(low, 13)), pair(Fraction(high, 13)))
            self.assertEqual(many, high - low - 1)
        self.assertEqual(roots_between((-1, LONGEST), (0, 1), (1, 1)), 1)
        self.assertEqual(roots_between((-1, LONGEST), (0, 1), (1, LONGEST)), 0)
        self.assertEqual(roots_between((-1, LONGEST), (1, LONGEST), (1, 1)), 0)
        self.assertEqual(roots_between((-1,) + (0,) * 11 + (LONGEST,), (-LONGEST, 1), (LONGEST, 1)), 2)

    def test_roots_with_wrong_arguments(self):
        for polynomial in NOT_POLYNOMIALS + ((),):
            refused(self, InvalidOperation, roots_between, polynomial, None, None)
        for x in NOT_FRACTIONS:
            refused(self, InvalidFraction, roots_between, (1,), x, None)
            refused(self, InvalidFraction, roots_between, (1,), (5, 1), x)
        for low, high in (((1, 1), (1, 1)), ((1, 1), (0, 1)), ((1, 2), (1, 3))):
            refused(self, InvalidOperation, roots_between, (1, 1), low, high)

    def test_divisors(self):
        source = random.Random(123)
        for _ in range(100):
            parts = [with_roots(*[Fraction(source.randint(-3, 3), source.randint(1, 3)) for _ in range(2)]) for _ in "abc"]
            one, other = times(parts[0], parts[1]), times(times(parts[0], parts[2]), (6,))
            common = common_divisor(one, other)
            for whole in (one, other):
                self.assertEqual(times(exact_quotient(whole, common), common), whole)
            self.assertEqual(len(common_divisor(exact_quotient(one, common), exact_quotient(other, common))), 1)
        self.assertIn(without_repeats(with_roots(2, 2, 2, 3, 3)), (with_roots(2, 3), times((-1,), with_roots(2, 3))))


if __name__ == "__main__":
    unittest.main()
