"""The promises of stage 2 that belong to `solved`."""

import random
import unittest
from fractions import Fraction

from reference import pair, pairs
from samples import LONGEST, NOT_FRACTIONS, OTHERS, refused
from wonbyturns.base.linear import solved
from wonbyturns.errors import InvalidOperation, TooMany


def rank_and_solution(rows):
    """The rank of the coefficients, and the solution if there is just one, by Fractions."""
    rows = [[Fraction(*one) for one in row] for row in rows]
    size = len(rows)
    done = 0
    for column in range(size):
        chosen = next((at for at in range(done, size) if rows[at][column]), None)
        if chosen is None:
            continue
        rows[done], rows[chosen] = rows[chosen], rows[done]
        rows[done] = [one / rows[done][column] for one in rows[done]]
        for at in range(size):
            if at != done:
                by = rows[at][column]
                rows[at] = [one - by * other for one, other in zip(rows[at], rows[done])]
        done += 1
    return done, pairs(row[size] for row in rows) if done == size else None


class Solving(unittest.TestCase):
    def test_example(self):
        rows = (((1, 1), (1, 1), (3, 1)), ((1, 1), (-1, 1), (1, 1)))
        self.assertEqual(solved(rows), ((2, 1), (1, 1)))

    def test_one_equation(self):
        self.assertEqual(solved((((2, 3), (5, 7)),)), ((15, 14),))
        self.assertEqual(solved((((-2, 1), (0, 1)),)), ((0, 1),))
        self.assertIsNone(solved((((0, 1), (0, 1)),)))
        self.assertIsNone(solved((((0, 1), (1, 1)),)))

    def test_equations_with_no_solution_and_with_many(self):
        one, two = ((1, 1), (2, 1), (3, 1)), ((2, 1), (4, 1), (6, 1))
        self.assertIsNone(solved((one, two)))
        self.assertIsNone(solved((one, ((2, 1), (4, 1), (7, 1)))))
        self.assertIsNone(solved((one, ((0, 1), (0, 1), (0, 1)))))
        self.assertIsNone(solved((one, ((0, 1), (0, 1), (1, 1)))))
        self.assertIsNone(solved((((0, 1), (1, 1), (3, 1)), ((0, 1), (4, 1), (7, 1)))))

    def test_a_head_that_is_0_first(self):
        self.assertEqual(solved((((0, 1), (2, 1), (6, 1)), ((5, 1), (0, 1), (1, 1)))), ((1, 5), (3, 1)))

    def test_many_equations_against_fractions(self):
        source = random.Random(11)
        none = 0
        for _ in range(600):
            size = source.randint(1, 5)
            rows = tuple(
                tuple(pair(Fraction(source.randint(-3, 3), source.randint(1, 3))) for _ in range(size + 1))
                for _ in range(size)
            )
            rank, expected = rank_and_solution(rows)
            with self.subTest(rows=rows):
                self.assertEqual(solved(rows), expected)
            none += rank < size
        self.assertGreater(none, 20)

    def test_twenty_equations(self):
        # The sums of this table with the numbers 1, 2, .., 20.
        size = range(20)
        table = [[Fraction(1, one + other + 1) for other in size] for one in size]
        rows = tuple(pairs(row + [sum(by * (at + 1) for at, by in enumerate(row))]) for row in table)
        self.assertEqual(solved(rows), tuple((at + 1, 1) for at in size))

    def test_long_results(self):
        self.assertEqual(solved((((1, LONGEST), (1, 1)),)), ((LONGEST, 1),))
        refused(self, TooMany, solved, (((1, LONGEST), (LONGEST, 1)),))
        refused(self, TooMany, solved, (((LONGEST, 1), (1, LONGEST)),))
        with self.assertRaises(TooMany) as caught:
            solved((((1, LONGEST), (2, 1)),))
        self.assertEqual(caught.exception.limit, 300)

    def test_what_is_longer_on_the_way_does_no_harm(self):
        rows = (((LONGEST, 1), (1, LONGEST), (0, 1)), ((1, LONGEST - 1), (LONGEST, 1), (0, 1)))
        self.assertEqual(solved(rows), ((0, 1), (0, 1)))
        size = range(20)
        rows = tuple(tuple((1, LONGEST) if at == one else (0, 1) for at in size) + ((1, LONGEST),) for one in size)
        self.assertEqual(solved(rows), ((1, 1),) * 20)

    def test_what_is_far_longer_on_the_way_ends_soon(self):
        source = random.Random(12)
        rows = tuple(
            tuple(pair(Fraction(source.randint(1, LONGEST), source.randint(1, LONGEST))) for _ in range(11))
            for _ in range(10)
        )
        refused(self, TooMany, solved, rows)

    def test_nothing_is_changed(self):
        rows = (((0, 1), (1, 1), (3, 1)), ((1, 1), (-1, 1), (1, 1)))
        self.assertEqual([solved(rows), solved(rows)], [((4, 1), (3, 1))] * 2)
        self.assertEqual(rows, (((0, 1), (1, 1), (3, 1)), ((1, 1), (-1, 1), (1, 1))))


class Wrong(unittest.TestCase):
    def test_other_values(self):
        for value in OTHERS + (0, (1, 2), ((1, 2), (1, 2)), [((1, 1), (1, 1))]):
            with self.subTest(value=repr(value)[:80]):
                refused(self, InvalidOperation, solved, value)

    def test_other_rows(self):
        row = ((1, 1), (1, 1), (3, 1))
        for wrong in OTHERS + (row[:2], row + ((1, 1),), list(row), row[0]):
            with self.subTest(row=repr(wrong)[:80]):
                refused(self, InvalidOperation, solved, (row, wrong))
                refused(self, InvalidOperation, solved, (wrong, row))

    def test_other_numbers(self):
        for wrong in NOT_FRACTIONS:
            with self.subTest(number=repr(wrong)[:80]):
                refused(self, InvalidOperation, solved, (((1, 1), wrong),))
                refused(self, InvalidOperation, solved, ((wrong, (1, 1)),))

    def test_how_many_rows(self):
        refused(self, InvalidOperation, solved, ())
        many = 21
        rows = tuple(tuple((1, 1) if at == one else (0, 1) for at in range(many + 1)) for one in range(many))
        refused(self, InvalidOperation, solved, rows)
        self.assertEqual(solved(tuple(row[:20] + row[21:] for row in rows[:20])), ((0, 1),) * 20)


if __name__ == "__main__":
    unittest.main()
