"""The promises [0.9] and stage 4: rows, their places and totals, and class Row."""

import unittest
from fractions import Fraction

from reference import (
    PAR_GAMES,
    SEE_GAMES,
    SWAP_GAMES,
    chances_behind,
    numbers,
    pair,
    pairs,
    paths,
    some_houses,
    some_rows,
    three_ways,
    total_of,
)
from samples import LONGEST, NOT_FRACTIONS, NOT_INTEGERS, NOT_NAMES, NOT_STANDINGS, OTHERS, refused
from wonbyturns.base.houses import House
from wonbyturns.base.ratios import Ratio
from wonbyturns.errors import InvalidHouse, InvalidNumber, InvalidOperation, InvalidRow, InvalidWeights, TooMany
from wonbyturns.play import rows
from wonbyturns.play.rows import Row, is_row, row_chances, row_gains, row_places, row_total, row_totals

SWAP = House(SWAP_GAMES)
SEE = House(SEE_GAMES)
PAR = House(PAR_GAMES)
NOT_HOUSES = OTHERS + (0, SWAP_GAMES, ("c", "d"), Row(SWAP, ("c",)), Ratio(1))
NOT_ROWS = OTHERS + (0, "c", ["c"], {"c": "d"}, (None,), ("c", 1), ("c", "x"), ("c", ["d"]), (("c",),), ("c",) * 13, SWAP)


class Examples(unittest.TestCase):
    def test_of_the_functions(self):
        self.assertEqual(
            [
                row_places(SWAP, ("c",), 0),
                row_totals(SWAP, ("c", "d")),
                row_chances(SEE, ("e", "f"), 0),
                row_total(SEE, ("e", "f"), 1),
                row_gains(SEE, ("e", "e"), 0),
            ],
            [(1,), ((1, 1), (-1, 1)), ((1, 2), (1, 2)), (-1, 1), {0: (1, 2), 2: (1, 2)}],
        )

    def test_of_the_class(self):
        row = Row(SWAP, ("c", "d"))
        self.assertEqual(
            [row.table(), row.led_back(((5, 1), (7, 1))), str(row.later(1)), (row + row).root() == row, str(row * 2), len(row)],
            [(((1, 1), (0, 1)), ((1, 1), (0, 1))), ((6, 1), (4, 1)), "d c", True, "c d c d", 2],
        )


class Judging(unittest.TestCase):
    def test_rows(self):
        self.assertEqual(rows.MAX_TURNS, 12)
        for row in (("c",), ("d",), ("c", "d"), ("c",) * 12, ("d", "c") * 6):
            self.assertIs(is_row(SWAP, row), True)

    def test_other_values(self):
        for value in NOT_ROWS + ((), ("c",) * 100):
            self.assertIs(is_row(SWAP, value), False, repr(value)[:80])
        for name in NOT_NAMES:
            self.assertIs(is_row(SWAP, (name,)), False, repr(name)[:80])
            self.assertIs(is_row(SWAP, ("c", name, "c")), False, repr(name)[:80])
        self.assertIs(is_row(SEE, ("c",)), False)

    def test_no_houses(self):
        for house in NOT_HOUSES:
            refused(self, InvalidHouse, is_row, house, ("c",))
            refused(self, InvalidHouse, is_row, house, None)


class Playing(unittest.TestCase):
    def each(self, seed, many=80):
        """Houses with rows of theirs."""
        for at, house in enumerate(some_houses(seed, many)):
            for row in some_rows(at, house, 2):
                yield house, row

    def test_places_and_chances(self):
        for house, row in self.each(41):
            for standing in range(house.size):
                behind = chances_behind(house, row, standing)
                self.assertEqual(row_chances(house, row, standing), pairs(behind))
                places = tuple(to for to in range(house.size) if behind[to])
                self.assertEqual(row_places(house, row, standing), places)

    def test_totals(self):
        for house, row in self.each(42):
            totals = pairs(total_of(house, row, standing) for standing in range(house.size))
            self.assertEqual(row_totals(house, row), totals)
            self.assertEqual(tuple(row_total(house, row, standing) for standing in range(house.size)), totals)

    def test_gains(self):
        for house, row in self.each(43):
            for standing in range(house.size):
                sums = {}
                for chance, gains, _ in paths(house, row, standing):
                    sums[gains] = sums.get(gains, 0) + chance
                found = row_gains(house, row, standing)
                self.assertEqual(list(found.items()), [(gains, pair(sums[gains])) for gains in sorted(sums)])
                self.assertEqual(sum(Fraction(*by) for by in found.values()), 1)
                mean = sum(gains * Fraction(*by) for gains, by in found.items())
                self.assertEqual(row_total(house, row, standing), pair(mean))

    def test_the_names_are_played_in_this_order(self):
        self.assertEqual(row_totals(SWAP, ("d", "c")), ((1, 1), (1, 1)))
        self.assertEqual(row_totals(SWAP, ("c", "d")), ((1, 1), (-1, 1)))
        self.assertEqual([row_places(SWAP, ("d", "c"), 1), row_places(SWAP, ("c", "d"), 1)], [(1,), (0,)])

    def test_rows_of_twelve_turns(self):
        row = ("c",) * 11 + ("d",)
        self.assertEqual(row_gains(SWAP, row, 0), {1: (1, 1)})
        self.assertEqual(row_total(PAR, ("a",) * 12, 2), (-3, 25))
        self.assertEqual(sum(Fraction(*by) for by in row_chances(PAR, ("b",) * 12, 1)), 1)
        self.assertEqual(list(row_gains(PAR, ("a", "b", "b") * 4, 1)), list(range(-12, 13, 2)))

    def test_eight_standings_and_twelve_moves(self):
        moves = tuple((to, gain, (1, 12)) for to in range(8) for gain in ((-99, 99) if to < 4 else (99,)))
        house = House({"a": (moves,) * 8})
        self.assertEqual(row_chances(house, ("a",) * 12, 7), ((1, 6),) * 4 + ((1, 12),) * 4)
        gains = row_gains(house, ("a",) * 12, 0)
        self.assertEqual((min(gains), max(gains), gains[-1188]), (-1188, 1188, (1, 3 ** 12)))

    def test_results_that_are_too_long(self):
        house = House({"a": (((0, 0, (1, LONGEST)), (1, 1, (LONGEST - 1, LONGEST))), ((1, 0, (1, 1)),))})
        self.assertEqual(row_chances(house, ("a",), 0), ((1, LONGEST), (LONGEST - 1, LONGEST)))
        for call in (row_chances, row_total, row_gains):
            refused(self, TooMany, call, house, ("a", "a"), 0, limit=300)
        refused(self, TooMany, row_totals, house, ("a", "a"))
        self.assertEqual(row_places(house, ("a",) * 12, 0), (0, 1))
        self.assertEqual(row_total(house, ("a",) * 12, 1), (0, 1))

    def test_wrong_arguments(self):
        for call in (row_places, row_chances, row_total, row_gains):
            for house in NOT_HOUSES:
                refused(self, InvalidHouse, call, house, None, None)
            for row in NOT_ROWS:
                refused(self, InvalidRow, call, SWAP, row, None)
            for standing in NOT_STANDINGS:
                refused(self, InvalidNumber, call, SWAP, ("c",), standing, number=standing)
        for house in NOT_HOUSES:
            refused(self, InvalidHouse, row_totals, house, None)
        for row in NOT_ROWS:
            refused(self, InvalidRow, row_totals, SWAP, row)

    def test_nothing_is_shared(self):
        found = row_gains(SEE, ("e",), 0)
        found[5] = None
        self.assertEqual(row_gains(SEE, ("e",), 0), {1: (1, 1)})


class Rows(unittest.TestCase):
    def test_properties(self):
        row = Row(SEE, ("e", "f"))
        self.assertEqual((row.house, row.names, row.sums), (SEE, ("e", "f"), ((1, 1), (-1, 1))))

    def test_wrong_arguments(self):
        for house in NOT_HOUSES:
            refused(self, InvalidHouse, Row, house, None)
        for names in NOT_ROWS:
            refused(self, InvalidRow, Row, SWAP, names)

    def test_tables_and_leading_back(self):
        for at, house in enumerate(some_houses(44, 80)):
            for names in some_rows(at, house, 2):
                row = Row(house, names)
                table = [chances_behind(house, names, standing) for standing in range(house.size)]
                self.assertEqual(row.table(), tuple(pairs(one) for one in table))
                self.assertEqual(row.sums, row_totals(house, names))
                vector = pairs(Fraction(one - 2, at + 1) for one in range(house.size))
                led = [
                    total_of(house, names, one) + sum(by * worth for by, worth in zip(table[one], numbers(vector)))
                    for one in range(house.size)
                ]
                self.assertEqual(row.led_back(vector), pairs(led))

    def test_the_last_game_leads_back_first(self):
        vector = ((3, 1), (-5, 2))
        both = Row(SWAP, ("c",)).led_back(Row(SWAP, ("d",)).led_back(vector))
        self.assertEqual(Row(SWAP, ("c", "d")).led_back(vector), both)
        self.assertEqual(both, ((4, 1), (2, 1)))

    def test_leading_back_what_is_no_vector(self):
        row = Row(SWAP, ("c",))
        for vector in OTHERS + (0, ((1, 1),), ((1, 1),) * 3, [(1, 1), (1, 1)], Ratio(1)):
            refused(self, InvalidWeights, row.led_back, vector)
        for number in NOT_FRACTIONS:
            refused(self, InvalidWeights, row.led_back, ((1, 1), number))

    def test_leading_back_to_long_numbers(self):
        self.assertEqual(Row(SWAP, ("c",)).led_back(((LONGEST, 1), (LONGEST - 1, 1))), ((LONGEST, 1), (LONGEST - 1, 1)))
        refused(self, TooMany, Row(SWAP, ("c",)).led_back, ((0, 1), (LONGEST, 1)), limit=300)

    def test_later(self):
        row = Row(SWAP, ("c", "c", "d"))
        found = [str(row.later(turns)) for turns in range(7)]
        self.assertEqual(found, ["c c d", "c d c", "d c c", "c c d", "c d c", "d c c", "c c d"])
        self.assertEqual(row.later(LONGEST), row.later(LONGEST % 3))
        for turns in NOT_INTEGERS + (-1, -LONGEST):
            refused(self, InvalidNumber, row.later, turns, number=turns)

    def test_root(self):
        roots = {
            "c": "c", "cc": "c", "cd": "cd", "cdc": "cdc", "cdcd": "cd", "ccdccd": "ccd", "cdcdc": "cdcdc",
            "ccccccc": "c", "cdcdcdcdcdcd": "cd", "cddcddcddcdd": "cdd", "cddccd": "cddccd", "ccdcccdc": "ccdc",
        }
        for names, root in roots.items():
            self.assertEqual(Row(SWAP, tuple(names)).root(), Row(SWAP, tuple(root)))

    def test_sums_and_products(self):
        one, other = Row(SWAP, ("c", "d")), Row(SWAP, ("d",))
        self.assertEqual([(one + other).names, (other + one).names], [("c", "d", "d"), ("d", "c", "d")])
        self.assertEqual([(other * 12).names, (one * 6).names, (one * 1).names], [("d",) * 12, ("c", "d") * 6, ("c", "d")])
        self.assertEqual(one + Row(House(SWAP_GAMES), ("d",)), Row(SWAP, ("c", "d", "d")))
        self.assertEqual((one.names, other.names), (("c", "d"), ("d",)))

    def test_wrong_operands(self):
        row = Row(SWAP, ("c", "d"))
        for other in OTHERS + (0, 1, ("c",), SWAP, Row(SEE, ("e",)), Row(SWAP.turned(), ("c",)), Ratio(1)):
            refused(self, InvalidOperation, row.__add__, other)
        for many in NOT_INTEGERS + (0, -1, -LONGEST, row):
            refused(self, InvalidOperation, row.__mul__, many)
        for many in (7, 100, LONGEST):
            refused(self, InvalidRow, row.__mul__, many)
        refused(self, InvalidRow, Row(SWAP, ("c",)).__mul__, 13)
        refused(self, InvalidRow, (row * 6).__add__, Row(SWAP, ("c",)))
        self.assertEqual(len(row * 5 + row), 12)

    def test_as_a_sequence(self):
        row = Row(SWAP, ("c", "c"))
        self.assertEqual([len(row), list(row), row[0], row[1]], [2, ["c", "c"], "c", "c"])
        self.assertEqual(["c" in row, "d" in row], [True, False])
        for name in NOT_NAMES:
            self.assertNotIn(name, row)
        for index in NOT_STANDINGS:
            refused(self, InvalidNumber, row.__getitem__, index, number=index)

    def test_equal_rows(self):
        row = Row(SWAP, ("c", "d"))
        self.assertEqual(row, Row(House(SWAP_GAMES), ("c", "d")))
        self.assertFalse(row != Row(House(SWAP_GAMES), ("c", "d")))
        others = (Row(SWAP, ("d", "c")), Row(SWAP, ("c",)), Row(SWAP.turned(), ("c", "d")), ("c", "d"), "c d", SWAP)
        for other in others + OTHERS:
            self.assertIs(row == other, False)
            self.assertIs(row != other, True)

    def test_three_homes(self):
        self.assertEqual(Row(three_ways(), ("a",)).sums, ((3, 1), (1, 1), (-2, 1), (1, 2), (7, 4), (4, 3)))


if __name__ == "__main__":
    unittest.main()
