"""The promises [0.16] and [0.22] of best rows, and stage 8."""

import unittest
from fractions import Fraction

from reference import (
    PAR_GAMES,
    SEE_GAMES,
    SWAP_GAMES,
    all_rows,
    integers_in,
    pair,
    purse,
    some_houses,
    three_ways,
)
from samples import LONGEST, NOT_FRACTIONS, NOT_INTEGERS, NOT_STANDINGS, OTHERS, refused
from wonbyturns.above import best as module
from wonbyturns.above.best import (
    Best,
    best_row,
    fewest_turns,
    is_pin,
    is_turns_paper,
    pin,
    rows_upto,
    top_run,
    turns_paper,
    winning_rows,
    won_by_turns,
)
from wonbyturns.above.weights import above_paper, ceiling, does_close, is_above_paper
from wonbyturns.base.houses import House
from wonbyturns.base.ratios import Ratio
from wonbyturns.errors import InvalidHouse, InvalidNumber, InvalidRow, NoRow, TooMany
from wonbyturns.play.mixing import is_mixing
from wonbyturns.play.rounds import long_run, run_paper

SWAP = House(SWAP_GAMES)
SEE = House(SEE_GAMES)
PAR = House(PAR_GAMES)
# No row wins in these two; in BARELY this is seen by the totals of four turns, and not by fewer.
LOW = PAR.paid("a", -2).paid("b", -2)
BARELY = House({"a": (((0, -1, (1, 1)),), ((0, -3, (1, 1)),)), "b": (((1, 2, (1, 1)),), ((0, -4, (1, 1)),))})
# Standing 0 stays and wins; standing 1 stays and loses; from standing 2 both can come.
APART = House({
    "a": (((0, 1, (1, 1)),), ((1, -1, (1, 1)),), ((0, -9, (1, 4)), (1, 0, (3, 4)))),
    "b": (((0, -2, (1, 1)),), ((1, -1, (1, 1)),), ((1, 0, (1, 1)),)),
})
FOUR = House({name: SWAP["c"] for name in "abcd"})
NOT_HOUSES = OTHERS + (0, SWAP_GAMES, Ratio(1))
NOT_MOSTS = NOT_INTEGERS + (0, -1, 13, LONGEST)


def rows_of(house, most):
    """All rows up to a number of turns, by their definition."""
    return [row for length in range(1, most + 1) for row in all_rows(house, length)]


def runs_of(house, most, standing):
    """The long runs of these rows, as Fractions."""
    return {row: Fraction(*long_run(house, row, standing)) for row in rows_of(house, most)}


def each(seed, many=25, most=4):
    """Houses with the runs of their rows from each standing."""
    for house in list(some_houses(seed, many, games=(1, 2))) + [SWAP, SEE, PAR, APART, BARELY]:
        for standing in range(house.size):
            yield house, standing, runs_of(house, most, standing)


def read(generator):
    """The list of what a generator gives."""
    return list(generator)


class Examples(unittest.TestCase):
    def test_of_rows(self):
        self.assertEqual(
            [
                top_run(SWAP, 2, 0),
                best_row(SWAP, 2, 0),
                [one for one in winning_rows(SWAP, 2, 0)],
                fewest_turns(SWAP, 4, 1),
                won_by_turns(SWAP, 3, 0),
                len([one for one in rows_upto(SEE, 3)]),
            ],
            [(1, 2), ("c", "d"), [("c", "d"), ("d", "c")], 2, False, 14],
        )

    def test_of_papers(self):
        self.assertEqual(
            [
                turns_paper(SWAP, 2, 0)[0],
                turns_paper(PAR, 4, 0)[0],
                pin(SWAP, 2, 0)[:3],
                str(Best(SWAP, 2, 0)),
                Best(SWAP, 2, 0).by_turns,
            ],
            ["not", "won", (("c", "d"), (1, 2), (1, 2)), "6 rows up to 2, best 1/2", ((0, 1), (1, 2))],
        )


class Rows(unittest.TestCase):
    def test_rows_in_order(self):
        for house in (SWAP, PAR, three_ways(), FOUR):
            for most in range(1, 5):
                self.assertEqual(read(rows_upto(house, most)), rows_of(house, most))
        self.assertEqual(len(read(rows_upto(three_ways(), 12))), 12)

    def test_five_thousand_rows_and_more(self):
        self.assertEqual(module.MAX_ROWS, 5000)
        three = FOUR.without("d")
        for house, most, many in ((SWAP, 11, 4094), (three, 7, 3279), (FOUR, 5, 1364)):
            self.assertEqual(len(read(rows_upto(house, most))), many)
            for more in range(most + 1, 13):
                with self.assertRaises(TooMany) as caught:
                    read(rows_upto(house, more))
                self.assertEqual(caught.exception.limit, 5000)

    def test_errors_come_with_the_first_element(self):
        for generator in (rows_upto(None, 1), winning_rows(None, 1, 0)):
            refused(self, InvalidHouse, next, generator)
        refused(self, TooMany, next, rows_upto(SWAP, 12), limit=5000)
        refused(self, InvalidNumber, next, winning_rows(SWAP, 12, 2), number=2)
        self.assertEqual(next(rows_upto(SWAP, 11)), ("c",))

    def test_wrong_arguments(self):
        for house in NOT_HOUSES:
            refused(self, InvalidHouse, read, rows_upto(house, None))
        for most in NOT_MOSTS:
            refused(self, InvalidNumber, read, rows_upto(SWAP, most), number=most)


class Runs(unittest.TestCase):
    def test_best_and_winning_rows(self):
        for house, standing, runs in each(91):
            top = max(runs.values())
            self.assertEqual(top_run(house, 4, standing), pair(top))
            self.assertEqual(best_row(house, 4, standing), [row for row in runs if runs[row] == top][0])
            wins = [row for row in runs if runs[row] > 0]
            self.assertEqual(read(winning_rows(house, 4, standing)), wins)
            lose = all(runs[name,] < 0 for name in house)
            self.assertIs(won_by_turns(house, 4, standing), lose and bool(wins))
            if wins:
                self.assertEqual(fewest_turns(house, 4, standing), len(wins[0]))
            else:
                refused(self, NoRow, fewest_turns, house, 4, standing, wanted=4)

    def test_one_more_game_and_the_best(self):
        # [0.22]: with one game more the best never falls.
        for house in some_houses(92, 20, games=(1, 2)):
            more = house.with_game("d", SEE["e"]) if house.size == 2 else house.with_game("d", house["a"])
            for standing in range(house.size):
                self.assertLessEqual(Fraction(*top_run(house, 3, standing)), Fraction(*top_run(more, 3, standing)))

    def test_standings_differ(self):
        self.assertEqual([top_run(APART, 2, standing) for standing in range(3)], [(1, 1), (-1, 1), (-1, 2)])
        self.assertEqual([best_row(APART, 2, standing) for standing in range(3)], [("a",), ("a",), ("a",)])
        self.assertEqual([won_by_turns(APART, 3, standing) for standing in range(3)], [False, False, False])

    def test_the_house_of_the_literature(self):
        for standing in range(3):
            self.assertIs(won_by_turns(PAR, 2, standing), False)
            self.assertIs(won_by_turns(PAR, 4, standing), True)
            self.assertEqual(fewest_turns(PAR, 4, standing), 3)
        self.assertEqual(best_row(PAR, 5, 0), ("a", "b", "a", "b", "b"))

    def test_the_most_rows(self):
        self.assertEqual(top_run(SWAP, 11, 1), (1, 2))
        self.assertEqual(best_row(PAR, 11, 2), ("a", "b", "a", "b", "b"))
        self.assertEqual(top_run(three_ways(), 12, 4), (35, 22))

    def test_wrong_arguments(self):
        calls = (
            top_run, best_row, fewest_turns, won_by_turns, turns_paper, pin, Best,
            lambda house, most, standing: read(winning_rows(house, most, standing)),
        )
        for call in calls:
            for house in NOT_HOUSES:
                refused(self, InvalidHouse, call, house, None, None)
            for most in NOT_MOSTS:
                refused(self, InvalidNumber, call, SWAP, most, None, number=most)
            for standing in NOT_STANDINGS:
                refused(self, InvalidNumber, call, SWAP, 1, standing, number=standing)
                refused(self, InvalidNumber, call, SWAP, 12, standing, number=standing)
            refused(self, TooMany, call, SWAP, 12, 0, limit=5000)
            refused(self, TooMany, call, FOUR, 6, 1, limit=5000)


class TurnsPapers(unittest.TestCase):
    def test_papers(self):
        kinds = {}
        for house, standing, runs in list(each(93)) + [(LOW, at, runs_of(LOW, 4, at)) for at in range(3)]:
            lose = all(runs[name,] < 0 for name in house)
            wins = any(run > 0 for run in runs.values())
            low = min(Fraction(*ceiling(house, length)) for length in range(1, 5)) <= 0
            if lose and not wins and not low:
                refused(self, NoRow, turns_paper, house, 4, standing, wanted=4)
                kinds["refused"] = True
                continue
            paper = turns_paper(house, 4, standing)
            kinds[paper[0]] = True
            self.assertIs(is_turns_paper(house, standing, paper), True)
            self.assertEqual(paper[0] == "won", lose and wins)
            self.assertLess(max(map(abs, integers_in(paper))), 10 ** 60)
        self.assertEqual(sorted(kinds), ["none", "not", "refused", "won"])

    def test_the_forms(self):
        word, row, paper, papers = turns_paper(PAR, 4, 1)
        self.assertEqual((word, list(papers)), ("won", ["a", "b"]))
        self.assertGreater(long_run(PAR, row, 1)[0], 0)
        self.assertEqual(turns_paper(SWAP, 2, 0)[:2], ("not", "c"))
        word, high, weights = turns_paper(LOW, 4, 0)
        self.assertEqual(word, "none")
        self.assertLessEqual(high[0], 0)
        self.assertIs(does_close(LOW, high, weights), True)

    def test_the_least_ceiling_decides(self):
        self.assertEqual([ceiling(BARELY, length) for length in (1, 2, 3, 4)], [(2, 1), (1, 2), (1, 3), (0, 1)])
        for most in (1, 2, 3):
            refused(self, NoRow, turns_paper, BARELY, most, 0, wanted=most)
        for most in (4, 5):
            paper = turns_paper(BARELY, most, 0)
            self.assertEqual(paper[0], "none")
            self.assertIs(is_turns_paper(BARELY, 0, paper), True)

    def test_papers_that_the_program_did_not_make(self):
        row = ("a", "a", "b", "b")
        alone = {name: run_paper(PAR, (name,)) for name in PAR}
        moved = {
            name: (values, tuple(pair(Fraction(*one) + 5) for one in weights))
            for name, (values, weights) in alone.items()
        }
        for papers in (alone, moved, {"b": moved["b"], "a": alone["a"]}):
            for played in (row, row * 3, row[1:] + row[:1]):
                self.assertIs(is_turns_paper(PAR, 2, ("won", played, run_paper(PAR, played), papers)), True)
        self.assertIs(is_turns_paper(SWAP, 1, ("not", "d", run_paper(SWAP, ("d",)))), True)
        self.assertIs(is_turns_paper(SWAP, 1, ("not", "c", run_paper(SWAP, ("c",)))), True)
        for length in (1, 2, 5):
            bound, weights = above_paper(LOW, length)
            self.assertIs(is_turns_paper(LOW, 0, ("none", bound, weights)), bound[0] <= 0)
        self.assertIs(is_turns_paper(LOW, 0, ("none", (0, 1), above_paper(LOW, 3)[1])), True)

    def test_papers_that_do_not_hold(self):
        row = ("a", "a", "b", "b")
        papers = {name: run_paper(PAR, (name,)) for name in PAR}
        paper = run_paper(PAR, row)
        self.assertIs(is_turns_paper(PAR, 0, ("won", row, paper, papers)), True)
        zero = ((0, 1),) * 3
        wrong = (
            ("won", ("a",), papers["a"], papers),
            ("won", ("a", "b"), run_paper(PAR, ("a", "b")), papers),
            ("won", row, papers["a"], papers),
            ("won", ("a", "a", "b"), paper, papers),
            ("won", row, paper, {"a": papers["a"]}),
            ("won", row, paper, {"a": papers["a"], "b": papers["a"]}),
            ("won", row, paper, {"a": papers["a"], "c": papers["b"]}),
            ("won", row, paper, {"a": papers["a"], "b": papers["b"], "c": papers["b"]}),
            ("won", row, paper, {"a": papers["a"], "b": (zero, zero)}),
            ("won", row, paper, papers, 0),
            ("won", row, paper),
            ("not", "a", papers["a"]),
            ("not", "a", papers["b"]),
            ("not", "c", papers["a"]),
            ("not", row, paper),
            ("not", ("a",), papers["a"]),
            ("none", (0, 1), (zero,)),
            ("none", (1, 1), (zero,)),
            ("none", *above_paper(PAR, 3)),
            ("won", *above_paper(PAR, 3)),
        )
        for value in wrong:
            self.assertIs(is_turns_paper(PAR, 0, value), False, repr(value)[:80])
        games = {"a": SWAP["c"], "b": SWAP["c"]}
        fair = House(games)
        self.assertIs(is_turns_paper(fair, 0, ("none", (1, 2), (((0, 1), (-1, 1)),))), False)
        loses = SWAP.paid("c", -1)
        self.assertIs(is_turns_paper(loses, 0, ("not", "c", run_paper(loses, ("c",)))), False)
        self.assertIs(is_turns_paper(loses, 0, ("won", ("c", "d"), run_paper(loses, ("c", "d")), {
            name: run_paper(loses, (name,)) for name in loses
        })), False)

    def test_what_is_fair_neither_wins_nor_loses(self):
        # Both games lose, and by turns they are just fair.
        games = {"c": (((1, 1, (1, 1)),), ((0, -3, (1, 1)),)), "d": (((0, -1, (1, 1)),), ((0, -1, (1, 1)),))}
        house = House(games)
        papers = {name: run_paper(house, (name,)) for name in house}
        self.assertEqual([long_run(house, row, 0) for row in (("c",), ("d",), ("c", "d"))], [(-1, 1), (-1, 1), (0, 1)])
        self.assertIs(is_turns_paper(house, 0, ("won", ("c", "d"), run_paper(house, ("c", "d")), papers)), False)
        self.assertIs(won_by_turns(house, 2, 0), False)
        self.assertIs(is_turns_paper(house, 0, ("not", "c", papers["c"])), False)
        papers = {name: run_paper(SWAP, (name,)) for name in SWAP}
        self.assertIs(is_turns_paper(SWAP, 0, ("won", ("c", "d"), run_paper(SWAP, ("c", "d")), papers)), False)

    def test_standings_of_papers(self):
        paper = run_paper(APART, ("a",))
        self.assertEqual([is_turns_paper(APART, standing, ("not", "a", paper)) for standing in range(3)], [True, False, False])

    def test_other_values(self):
        for value in OTHERS + (0, "not", ("not",), ["not", "c", run_paper(SWAP, ("c",))], ("x", "c", run_paper(SWAP, ("c",)))):
            self.assertIs(is_turns_paper(SWAP, 0, value), False, repr(value)[:80])
        right = [(SWAP, turns_paper(SWAP, 2, 0)), (PAR, turns_paper(PAR, 3, 0)), (LOW, turns_paper(LOW, 3, 0))]
        for house, paper in right:
            self.assertIs(is_turns_paper(house, 0, paper), True)
            self.assertIs(is_turns_paper(house, 0, list(paper)), False)
            for at in range(len(paper)):
                for wrong in OTHERS + (0, "x", ("x",), (1, 2), (2, 4), ((0, 1),), Ratio(1), SEE):
                    value = paper[:at] + (wrong,) + paper[at + 1:]
                    self.assertIs(is_turns_paper(house, 0, value), False, (at, repr(wrong)[:80]))

    def test_wrong_arguments(self):
        for judge in (is_turns_paper, is_pin):
            for house in NOT_HOUSES:
                refused(self, InvalidHouse, judge, house, None, None)
            for standing in NOT_STANDINGS:
                refused(self, InvalidNumber, judge, SWAP, standing, None, number=standing)


class Pins(unittest.TestCase):
    def test_pins(self):
        for house, standing, runs in each(94, 12):
            row, low, high, weights = pin(house, 4, standing)
            self.assertEqual((row, low), (best_row(house, 4, standing), top_run(house, 4, standing)))
            least = min(Fraction(*ceiling(house, length)) for length in range(1, 5))
            self.assertEqual(high, pair(least))
            self.assertIs(is_above_paper(house, (high, weights)), True)
            self.assertIs(is_pin(house, standing, (row, low, high, weights)), True)
            # [0.15]: no row gains more than what is closed.
            self.assertLessEqual(max(runs.values()), least)

    def test_the_best_lies_between(self):
        # [0.16]: in a house that mixes low and high come near to each other.
        self.assertIs(is_mixing(PAR), True)
        far = [Fraction(*found[2]) - Fraction(*found[1]) for found in (pin(PAR, most, 0) for most in (1, 5, 11))]
        self.assertTrue(far[0] > far[1] > far[2] >= 0)

    def test_other_pins(self):
        row, low, high, weights = pin(PAR, 5, 0)
        for value in (
            (row * 2, low, high, weights),
            (row[1:] + row[:1], low, high, weights),
            (row, low, (1, 2), weights),
            (row, low, *above_paper(PAR, 2)),
            (("a",), (-1, 100), high, weights),
        ):
            self.assertIs(is_pin(PAR, 0, value), True)

    def test_bent_pins(self):
        row, low, high, weights = pin(PAR, 5, 0)
        zero = (((0, 1),) * 3,)
        for value in (
            (row, (low[0] + 1, low[1]), high, weights),
            (row, (0, 1), high, weights),
            (("a",), low, high, weights),
            (row, low, low, weights),
            (row, low, (0, 1), weights),
            (row, low, high, zero),
            (row, low, high, weights[::-1]),
            (row, low, high),
            (row, low, high, weights, 0),
            [row, low, high, weights],
            (row * 3, low, high, weights),
            (list(row), low, high, weights),
        ):
            self.assertIs(is_pin(PAR, 0, value), False, repr(value)[:80])
        for number in NOT_FRACTIONS:
            self.assertIs(is_pin(PAR, 0, (row, number, high, weights)), False)
            self.assertIs(is_pin(PAR, 0, (row, low, number, weights)), False)
        for other in OTHERS + (0, PAR):
            for at in range(4):
                value = (row, low, high, weights)
                self.assertIs(is_pin(PAR, 0, value[:at] + (other,) + value[at + 1:]), False)
            self.assertIs(is_pin(PAR, 0, other), False)
        self.assertIs(is_pin(SWAP, 0, (("c", "d"), (1, 2), (1, 1), (((0, 1), (0, 1)),))), True)
        self.assertIs(is_pin(SWAP, 0, (("c",), (False, 1), (1, 1), (((0, 1), (0, 1)),))), False)

    def test_a_run_that_is_too_long(self):
        house = House({"a": (((0, 0, (1, LONGEST)), (1, 1, (LONGEST - 1, LONGEST))), ((0, 0, (1, 3)), (1, 0, (2, 3))))})
        self.assertIs(is_pin(house, 0, (("a",) * 2, (1, 2), (1, 1), (((0, 1), (0, 1)),))), False)

    def test_pins_from_standings(self):
        for standing, low in enumerate(((1, 1), (-1, 1), (-1, 2))):
            value = (("a",), low, (1, 1), (((0, 1),) * 3,))
            self.assertEqual([is_pin(APART, at, value) for at in range(3)], [at == standing for at in range(3)])

    def test_short_weights(self):
        part = Fraction(1, 10 ** 9 + 7)
        house = House(purse(Fraction(1, 10) - part, Fraction(3, 4) - part, Fraction(1, 2) - part))
        row, low, high, weights = pin(house, 8, 0)
        self.assertIs(is_pin(house, 0, (row, low, high, weights)), True)
        self.assertLess(max(map(abs, integers_in(weights))), 10 ** 60)


class Bests(unittest.TestCase):
    def test_properties(self):
        for house, standing, runs in each(95, 12):
            one = Best(house, 4, standing)
            self.assertEqual((one.house, one.most, one.standing), (house, 4, standing))
            self.assertEqual((one.top, one.row), (top_run(house, 4, standing), best_row(house, 4, standing)))
            self.assertEqual(one.by_turns, tuple(top_run(house, most, standing) for most in range(1, 5)))
            top = max(runs.values())
            self.assertEqual(list(one), [row for row in runs if runs[row] == top])
            self.assertEqual(len(one), len(runs))
            for row in runs:
                self.assertEqual(one.run_of(row), pair(runs[row]))
                self.assertEqual(row in one, runs[row] > 0)

    def test_other_rows(self):
        for house, standing, runs in each(96, 4, 3):
            one = Best(house, 3, standing)
            for row, run in runs.items():
                self.assertEqual(one.ahead(row), sum(other > run for other in runs.values()))
                self.assertEqual(one.alike(row), tuple(sorted(other for other in runs if runs[other] == run)))

    def test_the_order_of_rows_alike(self):
        self.assertEqual(Best(SWAP, 2, 0).alike(("d", "d")), (("c",), ("c", "c"), ("d",), ("d", "d")))
        self.assertEqual(list(Best(SWAP, 2, 0)), [("c", "d"), ("d", "c")])
        self.assertEqual(list(Best(three_ways(), 2, 4)), [("a",), ("a", "a")])

    def test_wrong_rows(self):
        one = Best(SWAP, 2, 0)
        for row in OTHERS + (0, "cd", ["c"], ("x",), ("c", "d", "c"), ("c", None), ("c", ["d"])):
            for call in (one.run_of, one.ahead, one.alike):
                refused(self, InvalidRow, call, row)
            self.assertNotIn(row, one)
        self.assertEqual(["c" in one, ("c", "d") in one, ("c",) in one], [False, True, False])

    def test_no_items(self):
        with self.assertRaises(TypeError):
            Best(SWAP, 2, 0)[0]

    def test_equal_bests(self):
        one = Best(SWAP, 2, 0)
        self.assertEqual(one, Best(House(SWAP_GAMES), 2, 0))
        self.assertFalse(one != Best(House(SWAP_GAMES), 2, 0))
        for other in OTHERS + (SWAP, Best(SWAP, 3, 0), Best(SWAP, 2, 1), Best(SEE, 2, 0), 6):
            self.assertIs(one == other, False)
            self.assertIs(one != other, True)

    def test_texts(self):
        self.assertEqual(str(Best(SEE, 3, 0)), "14 rows up to 3, best 0/1")
        self.assertEqual(str(Best(APART, 1, 1)), "2 rows up to 1, best -1/1")
        self.assertEqual(str(Best(SWAP, 11, 0)), "4094 rows up to 11, best 1/2")


if __name__ == "__main__":
    unittest.main()
