"""The main statements [0.15] to [0.23], over several modules at once."""

import itertools
import unittest
from fractions import Fraction

from reference import (
    SEE_GAMES,
    SWAP_GAMES,
    all_rows,
    chain_homes,
    chain_runs,
    moves_table,
    numbers,
    pair,
    pairs,
    places_behind,
    some_houses,
    some_rows,
    three_ways,
)
from wonbyturns.above.best import Best, top_run
from wonbyturns.above.weights import above_paper, ceiling, does_close, greatest_total, weights_of
from wonbyturns.base.houses import House
from wonbyturns.free.controllers import controller_runs, row_controller
from wonbyturns.free.policies import best_policies, best_runs, policy_runs, worth_of_seeing
from wonbyturns.lots.mixes import Mix, is_quotient, lot_runs, mix_signs, quotient, roots_between, value_at
from wonbyturns.play.mixing import is_mixing, mixing_paper
from wonbyturns.play.rounds import Round, homes, long_runs
from wonbyturns.purse.games import parrondo, products, slope, ups_of, verdict

SWAP = House(SWAP_GAMES)
SEE = House(SEE_GAMES)
PAR = parrondo((1, 200))


def each(seed, many=40, games=(1, 2, 3), sizes=(1, 2, 3)):
    """Drawn houses."""
    return list(some_houses(seed, many, sizes=sizes, games=games)) + [SWAP, SEE, PAR]


def each_mixing(seed, many=120, games=(1, 2, 3)):
    """Drawn houses that mix."""
    return [house for house in each(seed, many, games) if is_mixing(house)]


class Bounds(unittest.TestCase):
    def test_each_row_gains_at_most_what_weights_are_closed_for(self):
        for house in each(161):
            for length in (1, 2, 4):
                bound, weights = above_paper(house, length)
                self.assertIs(does_close(house, bound, weights), True)
                for row in some_rows(length, house, 5):
                    self.assertTrue(all(run <= Fraction(*bound) for run in numbers(long_runs(house, row))))

    def test_closed_for_each_greater_fraction(self):
        for house in each(162):
            bound, weights = above_paper(house, 3)
            for more in (Fraction(0), Fraction(1, 999), Fraction(50)):
                self.assertIs(does_close(house, pair(Fraction(*bound) + more), weights), True)

    def test_ceilings_and_rows_come_near_to_each_other(self):
        for house in each_mixing(163, 60):
            ceilings = [Fraction(*ceiling(house, length)) for length in (1, 2, 4, 8)]
            tops = [Fraction(*top_run(house, most, 0)) for most in (1, 2, 4)]
            self.assertTrue(all(top <= most for top, most in itertools.product(tops, ceilings)))
            self.assertEqual(tops, sorted(tops))

    def test_greatest_totals(self):
        for house in each(164):
            totals = [Fraction(*greatest_total(house, length)) for length in range(1, 8)]
            for one, other in itertools.product(range(1, 4), repeat=2):
                self.assertLessEqual(totals[one + other - 1], totals[one - 1] + totals[other - 1])
            for length in (2, 5):
                self.assertIs(does_close(house, pair(totals[length - 1] / length), weights_of(house, length)), True)

    def test_with_one_game_more_the_best_never_falls(self):
        for house in each(165, 60, (2, 3)):
            less = house.without(house.names[0])
            for standing in range(house.size):
                self.assertLessEqual(Fraction(*top_run(less, 3, standing)), Fraction(*top_run(house, 3, standing)))
            for length in (1, 3, 6):
                self.assertLessEqual(Fraction(*ceiling(less, length)), Fraction(*ceiling(house, length)))
            for one, other in zip(numbers(best_runs(less)), numbers(best_runs(house))):
                self.assertLessEqual(one, other)


class Mixing(unittest.TestCase):
    def test_the_same_long_run_from_all_standings(self):
        self.assertGreater(len(each_mixing(166)), 30)
        for house in each_mixing(166):
            for row in some_rows(1, house, 5):
                self.assertEqual(len(set(long_runs(house, row))), 1)
                self.assertEqual(len(homes(house, row)), 1)

    def test_begun_later_and_twice(self):
        for house in each_mixing(167):
            for row in some_rows(2, house, 4):
                one = Round(house, row)
                for turns in range(len(row) + 1):
                    self.assertEqual(one.begun(turns).runs, one.runs)
                self.assertEqual(one.again(2).runs, one.runs)

    def test_kept_apart_exactly_by_some_row(self):
        kept = 0
        for house in each(168, 60):
            apart = any(
                all(places_behind(house, row * many, one) & places_behind(house, row * many, other) == set()
                    for many in range(1, 9))
                for one, other in itertools.combinations(range(house.size), 2)
                for length in (1, 2, 3)
                for row in all_rows(house, length)
            )
            self.assertLessEqual(apart, not is_mixing(house))
            if not is_mixing(house):
                kept += 1
                _, one, other, lead, turns = mixing_paper(house)
                ahead = [places_behind(house, lead, standing) for standing in (one, other)]
                behind = [places_behind(house, lead + turns, standing) for standing in (one, other)]
                self.assertEqual((ahead[0] & ahead[1], ahead), (set(), behind))
        self.assertGreater(kept, 10)


class Choosing(unittest.TestCase):
    def test_the_same_policy_from_all_standings_and_at_least_each_row(self):
        for house in each(169):
            self.assertTrue(best_policies(house))
            for row in some_rows(3, house, 6):
                self.assertTrue(all(one[0] >= 0 for one in worth_of_seeing(house, row)))

    def test_one_game_everywhere(self):
        for house in each(170):
            for name in house:
                self.assertEqual(policy_runs(house, (name,) * house.size), long_runs(house, (name,)))

    def test_controllers_gain_no_more_than_free_choosing(self):
        for house in each(171):
            for row in some_rows(4, house, 4, 4):
                runs = numbers(controller_runs(house, row_controller(house, row)))
                self.assertTrue(all(run <= best for run, best in zip(runs, numbers(best_runs(house)))))


class Lots(unittest.TestCase):
    def test_quotients_of_polynomials(self):
        for house in each_mixing(172, 60, (2,)):
            first, second = house.names
            upper, lower = quotient(house, first, second)
            self.assertIs(is_quotient(house, first, second, (upper, lower)), True)
            self.assertEqual(roots_between(lower, (0, 1), (1, 1)), 0)
            self.assertTrue(all(value_at(lower, end)[0] > 0 for end in ((0, 1), (1, 1))))
            for p in (Fraction(0), Fraction(2, 5), Fraction(1)):
                run = Fraction(*value_at(upper, pair(p))) / Fraction(*value_at(lower, pair(p)))
                lot = {first: pair(p), second: pair(1 - p)}
                self.assertEqual(lot_runs(house, lot), pairs([run] * house.size))

    def test_purses(self):
        for name in PAR:
            ups, downs = ups_of(PAR[name])
            up, down = products(ups, downs)
            run = slope(ups, downs)
            self.assertEqual((Fraction(*up) < Fraction(*down), run[0] < 0, verdict(ups, downs)), (True, True, "loses"))
            self.assertEqual(long_runs(PAR, (name,)), (run,) * 3)


class FalseSentences(unittest.TestCase):
    """Houses in which the sentences of [0.23] are false."""

    def test_the_mean_of_two_long_runs(self):
        self.assertEqual((long_runs(SWAP, ("c",))[0], long_runs(SWAP, ("d",))[0]), ((0, 1), (0, 1)))
        self.assertEqual(long_runs(SWAP, ("c", "d"))[0], (1, 2))

    def test_games_that_lose_by_turns(self):
        self.assertTrue(all(run[0] < 0 for name in PAR for run in long_runs(PAR, (name,))))
        self.assertTrue(all(run[0] > 0 for run in long_runs(PAR, ("a", "a", "b", "b"))))

    def test_the_same_run_from_all_standings(self):
        self.assertGreater(len(set(long_runs(three_ways(), ("a",)))), 1)

    def test_games_that_each_come_to_one_home(self):
        for name in SWAP:
            self.assertEqual(len(chain_homes(moves_table(SWAP[name])[0])), 1)
        self.assertIs(is_mixing(SWAP), False)
        # Here each game alone even mixes, but not both by turns.
        house = House({
            "a": (((0, 0, (1, 1)),), ((0, 0, (1, 1)),), ((1, 0, (1, 1)),)),
            "b": (((1, 0, (1, 1)),), ((2, 0, (1, 1)),), ((2, 0, (1, 1)),)),
        })
        self.assertEqual([is_mixing(house.without(name)) for name in "ab"], [True, True])
        self.assertEqual(len(set(chain_runs(*moves_table(house["a"])))), 1)
        self.assertIs(is_mixing(house), False)

    def test_each_chance_between_two_that_win(self):
        house = PAR.turned()
        self.assertEqual(mix_signs(house, "a", "b")[1], (1, -1, 1))
        mix = Mix(house, "a", "b")
        self.assertEqual([mix.wins(p) for p in ((0, 1), (1, 3), (1, 1))], [True, False, True])

    def test_a_best_row_and_a_best_policy(self):
        self.assertEqual(Best(SEE, 8, 0).top, (0, 1))
        self.assertEqual(best_runs(SEE), ((1, 1), (1, 1)))
        # Not even longer rows help: both games come from everywhere to both standings alike.
        self.assertEqual(ceiling(SEE, 12), (1, 12))


if __name__ == "__main__":
    unittest.main()
