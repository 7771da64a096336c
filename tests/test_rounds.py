"""The promises [0.10], [0.14], [0.22] and [0.23] of rows, and stage 5: rows that come round."""

import unittest
from fractions import Fraction

from reference import (
    PAR_GAMES,
    SEE_GAMES,
    SWAP_GAMES,
    chances_behind,
    far_mean,
    homes_by_definition,
    is_run_paper_by_definition,
    numbers,
    pair,
    pairs,
    some_houses,
    some_rows,
    three_ways,
    total_of,
)
from samples import LONGEST, NOT_FRACTIONS, NOT_INTEGERS, NOT_NAMES, NOT_STANDINGS, OTHERS, refused
from wonbyturns.base.houses import House
from wonbyturns.base.ratios import Ratio
from wonbyturns.errors import InvalidHouse, InvalidNumber, InvalidOperation, InvalidRow, TooMany
from wonbyturns.play.rounds import Round, home_chances, homes, is_run_paper, long_run, long_runs, run_paper, shares
from wonbyturns.play.rows import Row, is_row

SWAP = House(SWAP_GAMES)
SEE = House(SEE_GAMES)
PAR = House(PAR_GAMES)
NOT_HOUSES = OTHERS + (0, SWAP_GAMES, Row(SWAP, ("c",)), Round(SWAP, ("c",)), Ratio(1))
NOT_ROWS = OTHERS + (0, "c", ["c"], (None,), ("c", "x"), ("c", ["d"]), ("c",) * 13, Row(SWAP, ("c",)))


def each(seed, many=120):
    """Houses with rows of theirs, among them some with several homes and with standings outside of these."""
    for at, house in enumerate(some_houses(seed, many)):
        for row in some_rows(at, house, 2):
            yield house, row
    yield three_ways(), ("a",)
    yield three_ways(), ("a", "a")


class Examples(unittest.TestCase):
    def test_of_the_functions(self):
        self.assertEqual(
            [
                homes(SWAP, ("c",)),
                homes(SWAP, ("c", "c")),
                long_runs(SWAP, ("c",)),
                long_runs(SWAP, ("c", "d")),
                shares(SWAP, ("c",), (0, 1)),
            ],
            [((0, 1),), ((0,), (1,)), ((0, 1), (0, 1)), ((1, 2), (1, 2)), {0: (1, 2), 1: (1, 2)}],
        )

    def test_of_the_class(self):
        one = Round(SWAP, ("c", "d"))
        self.assertEqual(
            [
                str(one.begun(1)),
                one.begun(1).runs,
                one.wins(1),
                home_chances(SWAP, ("c", "d"), 1),
                is_run_paper(SWAP, ("c", "d"), (((1, 1), (1, 1)), ((0, 1), (-2, 1)))),
            ],
            ["d c for ever", ((1, 2), (1, 2)), True, ((1, 1),), True],
        )


class Homes(unittest.TestCase):
    def test_homes(self):
        outside = several = 0
        for house, row in each(51):
            found = homes(house, row)
            self.assertEqual(found, homes_by_definition(house, row))
            several += len(found) > 1
            outside += sum(map(len, found)) < house.size
        self.assertGreater(several, 10)
        self.assertGreater(outside, 50)

    def test_three_homes(self):
        house = three_ways()
        self.assertEqual(homes(house, ("a",)), ((0,), (1, 2), (3,)))
        self.assertEqual(homes(house, ("a", "a")), ((0,), (1,), (2,), (3,)))

    def test_homes_of_more_than_two_parts(self):
        circle = House({"a": tuple((((one + 1) % 8, 0, (1, 1)),) for one in range(8))})
        self.assertEqual(homes(circle, ("a",)), ((0, 1, 2, 3, 4, 5, 6, 7),))
        self.assertEqual(homes(circle, ("a",) * 2), ((0, 2, 4, 6), (1, 3, 5, 7)))
        self.assertEqual(homes(circle, ("a",) * 8), tuple((one,) for one in range(8)))
        self.assertEqual(homes(House({"a": (((0, 1, (1, 1)),),)}), ("a",)), ((0,),))

    def test_shares(self):
        for house, row in each(52):
            for home in homes(house, row):
                found = shares(house, row, home)
                self.assertEqual(list(found), list(home))
                by = {one: Fraction(*found[one]) for one in home}
                self.assertTrue(all(share > 0 for share in by.values()))
                self.assertEqual(sum(by.values()), 1)
                behind = {one: chances_behind(house, row, one) for one in home}
                for to in home:
                    self.assertEqual(sum(by[one] * behind[one][to] for one in home), by[to])

    def test_what_is_no_home(self):
        wrong = ((), (0,), (1,), (1, 0), (0, 1, 2), [0, 1], (0, 0, 1), (False, True), (0, True), ((0, 1),), {0: 1, 1: 1})
        for home in wrong + OTHERS + (0, SWAP):
            refused(self, InvalidOperation, shares, SWAP, ("c",), home)
        refused(self, InvalidOperation, shares, SWAP, ("c", "c"), (0, 1))
        refused(self, InvalidOperation, shares, SWAP, ("d",), (1,))
        refused(self, InvalidOperation, shares, SWAP, ("d",), (False,))
        self.assertEqual(shares(SWAP, ("d",), (0,)), {0: (1, 1)})

    def test_chances_to_come_home(self):
        for house, row in each(53):
            found = homes(house, row)
            into = [numbers(home_chances(house, row, standing)) for standing in range(house.size)]
            for standing in range(house.size):
                self.assertEqual((len(into[standing]), sum(into[standing])), (len(found), 1))
                behind = chances_behind(house, row, standing)
                for at, home in enumerate(found):
                    self.assertEqual(into[standing][at], sum(by * into[to][at] for to, by in enumerate(behind)))
                    if standing in home:
                        self.assertEqual(into[standing][at], 1)

    def test_chances_of_three_homes(self):
        found = [home_chances(three_ways(), ("a",), standing) for standing in (3, 4, 5)]
        self.assertEqual(found, [((0, 1), (0, 1), (1, 1)), ((6, 11), (3, 11), (2, 11)), ((2, 11), (1, 11), (8, 11))])

    def test_no_shared_state(self):
        found = shares(SWAP, ("c",), (0, 1))
        found[0] = None
        self.assertEqual(shares(SWAP, ("c",), (0, 1)), {0: (1, 2), 1: (1, 2)})


class LongRuns(unittest.TestCase):
    def test_as_the_limit_of_the_means(self):
        for house, row in each(54):
            for run, mean in zip(long_runs(house, row), far_mean(house, row)):
                self.assertAlmostEqual(float(Fraction(*run)), mean, places=6)

    def test_by_homes(self):
        for house, row in each(55):
            found = homes(house, row)
            values = []
            for home in found:
                by = shares(house, row, home)
                values.append(sum(Fraction(*by[one]) * total_of(house, row, one) for one in home) / len(row))
            for standing in range(house.size):
                into = numbers(home_chances(house, row, standing))
                run = pair(sum(by * value for by, value in zip(into, values)))
                self.assertEqual(long_run(house, row, standing), run)
                self.assertEqual(long_runs(house, row)[standing], run)

    def test_the_house_of_the_literature(self):
        self.assertEqual(long_runs(PAR, ("a",)), ((-1, 100),) * 3)
        for row in (("a",), ("b",)):
            self.assertTrue(all(run[0] < 0 for run in long_runs(PAR, row)))
        for turns in range(4):
            self.assertTrue(all(run[0] > 0 for run in Round(PAR, ("a", "a", "b", "b")).begun(turns).runs))

    def test_three_homes(self):
        runs = long_runs(three_ways(), ("a",))
        self.assertEqual(runs, ((3, 1), (-1, 2), (-1, 2), (1, 2), (35, 22), (19, 22)))

    def test_a_row_of_twelve_turns(self):
        self.assertEqual(long_runs(SWAP, ("c",) * 11 + ("d",)), ((1, 12), (1, 12)))
        self.assertEqual(long_runs(PAR, ("b",) * 12), long_runs(PAR, ("b",)))

    def test_long_numbers(self):
        tiny = Fraction(1, LONGEST)
        game = tuple(((0, 1 - 2 * one, pair(by)), (1, 1 - 2 * one, pair(1 - by))) for one, by in enumerate((1 - tiny, tiny)))
        house = House({"a": game, "b": (game[0], ((0, 7, (1, 3)), (1, 7, (2, 3))))})
        self.assertEqual(long_runs(house, ("a",)), ((0, 1), (0, 1)))
        for call in (long_runs, run_paper):
            refused(self, TooMany, call, house, ("a", "b"), limit=300)
        refused(self, TooMany, long_run, house, ("a", "b"), 0, limit=300)
        self.assertEqual(homes(house, ("a", "b")), ((0, 1),))

    def test_twelve_turns_with_long_numbers(self):
        tiny = Fraction(1, LONGEST)
        game = tuple(tuple(sorted([((one + 1) % 8, 5, pair(tiny)), (one, 5, pair(1 - tiny))])) for one in range(8))
        house = House({"a": game})
        self.assertEqual(long_runs(house, ("a",) * 12), ((5, 1),) * 8)
        self.assertEqual(set(shares(house, ("a",) * 12, tuple(range(8))).values()), {(1, 8)})


class TrueStatements(unittest.TestCase):
    def test_of_rows_begun_later_and_rows_twice(self):
        # In a house that mixes: here each game leads everywhere from everywhere.
        for at, house in enumerate(some_houses(56, 30, sparse=False)):
            mixed = {}
            for name in house:
                game = []
                for moves in house[name]:
                    by = {}
                    for to, gain, chance in moves:
                        by[to, gain] = by.get((to, gain), 0) + Fraction(*chance) / 2
                    for to in range(house.size):
                        by[to, 0] = by.get((to, 0), 0) + Fraction(1, 2 * house.size)
                    game.append(tuple((to, gain, pair(by[to, gain])) for to, gain in sorted(by)))
                mixed[name] = tuple(game)
            house = House(mixed)
            for row in some_rows(at, house, 2):
                one = Round(house, row)
                self.assertEqual(len(set(one.runs)), 1)
                for turns in range(len(row) + 1):
                    self.assertEqual(one.begun(turns).runs, one.runs)
                self.assertEqual(one.again(2).runs, one.runs)

    def test_a_long_run_need_not_be_the_mean_of_two(self):
        self.assertEqual([long_runs(SWAP, (name,))[0] for name in "cd"], [(0, 1), (0, 1)])
        self.assertEqual(long_runs(SWAP, ("c", "d"))[0], (1, 2))

    def test_games_that_lose_need_not_lose_by_turns(self):
        self.assertTrue(all(long_runs(PAR, (name,))[0][0] < 0 for name in PAR))
        self.assertTrue(long_runs(PAR, ("a", "a", "b", "b"))[0][0] > 0)

    def test_a_long_run_need_not_be_the_same_everywhere(self):
        self.assertEqual(len(set(long_runs(three_ways(), ("a",)))), 5)


class Papers(unittest.TestCase):
    def test_papers(self):
        for house, row in each(57):
            paper = run_paper(house, row)
            self.assertTrue(is_run_paper_by_definition(house, row, paper))
            self.assertIs(is_run_paper(house, row, paper), True)
            runs = pairs(value / len(row) for value in numbers(paper[0]))
            self.assertEqual(runs, long_runs(house, row))

    def test_other_weights(self):
        for house, row in each(58, 60):
            values, weights = run_paper(house, row)
            found = homes(house, row)
            amounts = [Fraction(at + 2, at + 3) for at in range(len(found))]
            moved = []
            for standing in range(house.size):
                into = numbers(home_chances(house, row, standing))
                moved.append(Fraction(*weights[standing]) + sum(by * more for by, more in zip(into, amounts)))
            self.assertIs(is_run_paper(house, row, (values, pairs(moved))), True)

    def test_papers_that_are_bent_in_one_place(self):
        for house, row in each(59, 60):
            paper = run_paper(house, row)
            for side in (0, 1):
                for standing in range(house.size):
                    bent = [list(vector) for vector in paper]
                    top, bottom = bent[side][standing]
                    bent[side][standing] = (top + bottom, bottom)
                    bent = tuple(tuple(vector) for vector in bent)
                    self.assertIs(is_run_paper(house, row, bent), is_run_paper_by_definition(house, row, bent))

    def test_values_that_stay_but_are_wrong(self):
        self.assertIs(is_run_paper(SWAP, ("c",), (((0, 1), (0, 1)), ((1, 1), (0, 1)))), True)
        self.assertIs(is_run_paper(SWAP, ("c",), (((1, 1), (1, 1)), ((1, 1), (0, 1)))), False)
        self.assertIs(is_run_paper(SWAP, ("c", "c"), (((0, 1), (0, 1)), ((-3, 1), (7, 2)))), True)
        self.assertIs(is_run_paper(SWAP, ("c", "c"), (((1, 1), (-1, 1)), ((-3, 1), (7, 2)))), False)

    def test_other_values(self):
        values, weights = ((1, 1), (1, 1)), ((0, 1), (-2, 1))
        wrong = (
            (values,), (values, weights, weights), [values, weights], (list(values), weights), (values, list(weights)),
            (values, weights[:1]), (values[:1], weights), (values + ((1, 1),), weights), (weights, values),
            (values, {0: (0, 1), 1: (-2, 1)}), {0: values, 1: weights},
        )
        for value in wrong + OTHERS + (0, Ratio(1), SWAP):
            self.assertIs(is_run_paper(SWAP, ("c", "d"), value), False, repr(value)[:80])
        for number in NOT_FRACTIONS:
            self.assertIs(is_run_paper(SWAP, ("c", "d"), (((1, 1), number), weights)), False, repr(number)[:80])
            self.assertIs(is_run_paper(SWAP, ("c", "d"), (values, (number, (-2, 1)))), False, repr(number)[:80])
        self.assertIs(is_run_paper(SWAP, ("c", "d"), (((True, 1), (1, 1)), weights)), False)
        self.assertIs(is_run_paper(SWAP, ("c", "d"), (values, weights)), True)

    def test_long_numbers_are_judged(self):
        high = ((LONGEST, 1), (LONGEST - 2, 1))
        self.assertIs(is_run_paper(SWAP, ("c", "d"), (((1, 1), (1, 1)), high)), True)
        self.assertIs(is_run_paper(SWAP, ("c", "d"), (((1, 1), (1, 1)), ((LONGEST, 1), (LONGEST - 1, 1)))), False)

    def test_papers_of_at_most_sixty_digits(self):
        # The weights of both standings differ by 10 ** 60, so one of them must not be 0.
        tiny = Fraction(1, 10 ** 60)
        far = House({"a": (
            ((0, 1, pair(1 - tiny)), (1, 1, pair(tiny))),
            ((0, -1, pair(tiny)), (1, -1, pair(1 - tiny))),
        )})
        # The weights 1 / some and 1 / other are short beside 0 only: their difference is not.
        some, other = 10 ** 40, 10 ** 40 + 1
        to_1 = [((1, 0, (by - 1, by)), (1, 1, (1, by))) for by in (some, other)]
        bent = House({"a": (
            to_1[0],
            (
                (0, -1, (1, 2 * some)), (0, 0, pair(Fraction(1, 2) - Fraction(1, 2 * some))),
                (2, -1, (1, 2 * other)), (2, 0, pair(Fraction(1, 2) - Fraction(1, 2 * other))),
            ),
            to_1[1],
        )})
        for house in (far, bent):
            paper = run_paper(house, ("a",))
            self.assertTrue(is_run_paper_by_definition(house, ("a",), paper))
            for vector in paper:
                for number in vector:
                    self.assertLess(max(abs(number[0]), number[1]), 10 ** 60)

    def test_long_papers_with_several_homes(self):
        tiny = Fraction(1, 10 ** 60)
        near, away = pair(1 - tiny), pair(tiny)
        house = House({"a": (
            ((0, 1, near), (1, 1, away)),
            ((0, -1, away), (1, -1, near)),
            ((2, 1, near), (3, 1, away)),
            ((2, -1, away), (3, -1, near)),
            ((0, 0, (1, 2)), (2, 0, (1, 2))),
        )})
        paper = run_paper(house, ("a",))
        self.assertTrue(is_run_paper_by_definition(house, ("a",), paper))
        self.assertLess(max(abs(part) for vector in paper for number in vector for part in number), 10 ** 60)


class Wrong(unittest.TestCase):
    def test_wrong_houses(self):
        for house in NOT_HOUSES:
            for call in (homes, long_runs, run_paper, Round):
                refused(self, InvalidHouse, call, house, None)
            for call in (shares, home_chances, long_run, is_run_paper):
                refused(self, InvalidHouse, call, house, None, None)

    def test_wrong_rows(self):
        for row in NOT_ROWS:
            self.assertIs(is_row(SWAP, row), False)
            for call in (homes, long_runs, run_paper, Round):
                refused(self, InvalidRow, call, SWAP, row)
            for call in (shares, home_chances, long_run, is_run_paper):
                refused(self, InvalidRow, call, SWAP, row, None)

    def test_wrong_standings(self):
        for standing in NOT_STANDINGS:
            for call in (home_chances, long_run):
                refused(self, InvalidNumber, call, SWAP, ("c",), standing, number=standing)


class Rounds(unittest.TestCase):
    def test_properties(self):
        one = Round(SWAP, ("c", "d", "d"))
        self.assertEqual((one.house, one.row, one.turns), (SWAP, ("c", "d", "d"), 3))
        self.assertEqual((one.runs, one.homes), (((1, 3), (1, 3)), ((0,),)))

    def test_begun(self):
        one = Round(SWAP, ("c", "c", "d"))
        self.assertEqual([str(one.begun(turns)) for turns in range(4)], [
            "c c d for ever", "c d c for ever", "d c c for ever", "c c d for ever",
        ])
        for turns in NOT_INTEGERS + (-1, 4, LONGEST):
            refused(self, InvalidNumber, one.begun, turns, number=turns)

    def test_again(self):
        one = Round(SWAP, ("c", "d"))
        self.assertEqual([one.again(1), one.again(6).row], [one, ("c", "d") * 6])
        for times in NOT_INTEGERS + (0, -1, -LONGEST):
            refused(self, InvalidNumber, one.again, times, number=times)
        for times in (7, LONGEST):
            refused(self, InvalidRow, one.again, times)
        self.assertEqual(one.row, ("c", "d"))

    def test_wins(self):
        self.assertIs(Round(SWAP, ("c", "d")).wins(0), True)
        self.assertIs(Round(SWAP, ("c",)).wins(0), False)
        self.assertIs(Round(PAR, ("b",)).wins(0), False)
        self.assertEqual([Round(three_ways(), ("a",)).wins(one) for one in range(6)], [True, False, False, True, True, True])
        for standing in NOT_STANDINGS:
            refused(self, InvalidNumber, Round(SWAP, ("c",)).wins, standing, number=standing)

    def test_with_another_round(self):
        one, other = Round(SWAP, ("c", "d")), Round(House(SWAP_GAMES), ("d",))
        self.assertEqual([one.with_round(other).row, other.with_round(one).row], [("c", "d", "d"), ("d", "c", "d")])
        for wrong in OTHERS + (0, ("c",), Row(SWAP, ("c",)), Round(SEE, ("e",)), Round(SWAP.turned(), ("c",)), SWAP):
            refused(self, InvalidOperation, one.with_round, wrong)
        refused(self, InvalidRow, one.again(6).with_round, other)
        self.assertEqual(one.again(5).with_round(one).turns, 12)

    def test_as_a_sequence(self):
        one = Round(SWAP, ("c", "c"))
        self.assertEqual([len(one), list(one), "c" in one, "d" in one], [2, ["c", "c"], True, False])
        for name in NOT_NAMES:
            self.assertNotIn(name, one)
        with self.assertRaises(TypeError):
            one[0]

    def test_equal_rounds(self):
        one = Round(SWAP, ("c", "d"))
        self.assertEqual(one, Round(House(SWAP_GAMES), ("c", "d")))
        self.assertFalse(one != Round(House(SWAP_GAMES), ("c", "d")))
        others = (one.begun(1), one.again(2), Round(SWAP.turned(), ("c", "d")), Row(SWAP, ("c", "d")), ("c", "d"))
        for other in others + OTHERS:
            self.assertIs(one == other, False)
            self.assertIs(one != other, True)

    def test_texts(self):
        self.assertEqual(str(Round(PAR, ("a", "b", "b"))), "a b b for ever")
        self.assertEqual(str(Round(PAR, ("a",))), "a for ever")


if __name__ == "__main__":
    unittest.main()
