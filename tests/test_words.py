"""The promises [0.1], [0.5], [0.7], [0.8] and stage 1, as far as module words goes."""

import unittest

from samples import LONGEST, NOT_FRACTIONS, NOT_INTEGERS, OTHERS, TOO_LONG
from wonbyturns.base import words
from wonbyturns.base.ratios import Ratio
from wonbyturns.base.words import is_chance, is_fraction, is_integer, is_vector, is_word
from wonbyturns.errors import InvalidNumber


class Examples(unittest.TestCase):
    def test_words_and_fractions(self):
        self.assertEqual(
            [
                is_word("coin"),
                is_word("Coin"),
                is_fraction((1, 2)),
                is_fraction((2, 4)),
                is_fraction((0, 1)),
                is_fraction((0, 3)),
                is_fraction((-3, 4)),
                is_fraction((3, -4)),
            ],
            [True, False, True, False, True, False, True, False],
        )

    def test_chances_and_vectors(self):
        self.assertEqual(
            [
                is_chance((1, 1)),
                is_chance((3, 2)),
                is_vector(((1, 2), (0, 1)), 2),
                is_vector([], 0),
                is_integer(True),
            ],
            [True, False, True, False, False],
        )


class Judging(unittest.TestCase):
    def assert_all(self, judge, values, expected):
        """Each value is judged as expected, by True or False itself."""
        for value in values:
            with self.subTest(value=repr(value)[:80]):
                self.assertIs(judge(value), expected)


class Integers(Judging):
    def test_constants(self):
        self.assertEqual((words.MAX_LETTERS, words.MAX_DIGITS), (8, 300))
        self.assertEqual(words.LEAST_LONG, 10 ** words.MAX_DIGITS)

    def test_integers_of_at_most_300_digits(self):
        self.assert_all(is_integer, (0, 1, -1, 99, LONGEST, -LONGEST), True)

    def test_integers_of_more_digits(self):
        self.assert_all(is_integer, (TOO_LONG, -TOO_LONG, TOO_LONG + 1, 10 ** 399), False)

    def test_integers_that_python_does_not_write_out(self):
        self.assertIs(is_integer(10 ** 9000), False)
        self.assertIs(is_integer(-(10 ** 9000)), False)

    def test_other_values(self):
        self.assert_all(is_integer, NOT_INTEGERS, False)


class Words(Judging):
    def test_words_of_one_to_eight_letters(self):
        self.assert_all(is_word, ("a", "z", "coin", "abcdefgh", "zzzzzzzz"), True)

    def test_lengths_beyond(self):
        self.assert_all(is_word, ("", "abcdefghi", "a" * 9000), False)

    def test_other_characters(self):
        wrong = ("Coin", "A", "a b", " a", "a ", "a\n", "\na", "a1", "1", "a_b", "a-b", "`", "{", "\n")
        self.assert_all(is_word, wrong, False)

    def test_letters_beyond_z(self):
        self.assert_all(is_word, ("\u00e4", "\u00df", "a\u0131", "\uff41", "\u00aa"), False)

    def test_other_values(self):
        self.assert_all(is_word, OTHERS, False)
        self.assert_all(is_word, (0, 5, ("a",), ["a"], {"a": 1}, Ratio(1)), False)


class Fractions(Judging):
    def test_fractions(self):
        right = ((0, 1), (1, 1), (-1, 1), (1, 2), (-3, 4), (3, 2), (LONGEST, 1), (1, LONGEST))
        self.assert_all(is_fraction, right + ((-LONGEST, LONGEST - 1),), True)

    def test_other_values(self):
        self.assert_all(is_fraction, NOT_FRACTIONS, False)

    def test_chances(self):
        self.assert_all(is_chance, ((0, 1), (1, 1), (1, 2), (1, LONGEST), (LONGEST - 1, LONGEST)), True)

    def test_fractions_that_are_no_chances(self):
        self.assert_all(is_chance, ((-1, 1), (-1, LONGEST), (3, 2), (2, 1), (LONGEST, LONGEST - 1)), False)

    def test_other_values_are_no_chances(self):
        self.assert_all(is_chance, NOT_FRACTIONS, False)


class Vectors(Judging):
    def test_vectors(self):
        self.assertIs(is_vector((), 0), True)
        self.assertIs(is_vector(((-5, 1),), 1), True)
        self.assertIs(is_vector(((1, 2), (1, 2), (0, 1)), 3), True)
        self.assertIs(is_vector(((1, 2),) * 200, 200), True)

    def test_other_sizes(self):
        self.assertIs(is_vector((), 1), False)
        self.assertIs(is_vector(((1, 2),), 0), False)
        self.assertIs(is_vector(((1, 2),), 2), False)
        self.assertIs(is_vector(((1, 2),), LONGEST), False)
        self.assertIs(is_vector(((1, 2), (1, 3)), 1), False)

    def test_other_items(self):
        for item in NOT_FRACTIONS:
            with self.subTest(item=repr(item)[:80]):
                self.assertIs(is_vector((item,), 1), False)
                self.assertIs(is_vector(((1, 2), item), 2), False)

    def test_other_values(self):
        for value in NOT_FRACTIONS:
            if value != () and value != ((1, 2),):
                with self.subTest(value=repr(value)[:80]):
                    self.assertIs(is_vector(value, 0), False)
                    self.assertIs(is_vector(value, 1), False)
                    self.assertIs(is_vector(value, 2), False)

    def test_lists_are_no_vectors(self):
        self.assertIs(is_vector([(1, 2)], 1), False)
        self.assertIs(is_vector({(1, 2): 1}, 1), False)

    def test_wrong_sizes(self):
        for size in NOT_INTEGERS + (-1, -LONGEST):
            for value in (((1, 2),), None):
                with self.subTest(size=repr(size)[:80]):
                    with self.assertRaises(InvalidNumber) as caught:
                        is_vector(value, size)
                    self.assertIs(caught.exception.number, size)

    def test_nothing_is_changed(self):
        rows = [[(1, 2)], {"a": [1]}]
        for judge in (is_integer, is_word, is_fraction, is_chance):
            judge(rows)
        is_vector(rows, 2)
        self.assertEqual(rows, [[(1, 2)], {"a": [1]}])


if __name__ == "__main__":
    unittest.main()
