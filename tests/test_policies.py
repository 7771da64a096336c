"""The promises [0.13], [0.14] and [0.19] of free choosing, and stage 9: policies."""

import itertools
import random
import unittest
from fractions import Fraction

from reference import (
    PAR_GAMES,
    SEE_GAMES,
    SWAP_GAMES,
    bent,
    chain_homes,
    chain_runs,
    integers_in,
    led_back_by,
    moves_table,
    numbers,
    pair,
    pairs,
    some_game,
    some_houses,
    some_rows,
    three_ways,
)
from samples import LONGEST, NOT_NAMES, NOT_STANDINGS, OTHERS, refused
from wonbyturns.base.houses import House
from wonbyturns.base.ratios import Ratio
from wonbyturns.errors import InvalidHouse, InvalidNumber, InvalidPolicy, InvalidRow, TooMany, UnknownGame
from wonbyturns.free import policies as module
from wonbyturns.free.policies import (
    Chooser,
    best_policies,
    best_run,
    best_runs,
    free_paper,
    improved,
    is_free_paper,
    is_policy,
    is_policy_paper,
    policy_homes,
    policy_paper,
    policy_runs,
    worth_of_seeing,
)
from wonbyturns.play.rounds import long_runs

SWAP = House(SWAP_GAMES)
SEE = House(SEE_GAMES)
PAR = House(PAR_GAMES)
ONE = House({"a": (((0, 3, (1, 1)),),)})
NOT_HOUSES = OTHERS + (0, SWAP_GAMES, Ratio(1))
NOT_POLICIES = OTHERS + (
    0, ("c",), ("c", "d", "c"), ["c", "d"], ("c", "x"), ("c", None), ("c", ["d"]), "cd", {"c": 1, "d": 2},
)
# Standing 0 wins when it stays, standing 1 loses when it stays; going over costs nine, once.
STAY = House({
    "go": (((1, -9, (1, 1)),), ((0, -9, (1, 1)),)),
    "stay": (((0, 1, (1, 1)),), ((1, -1, (1, 1)),)),
})
# From standing 2 no choice helps to come home into 0 rather than into 1.
LOST = House({
    "a": (((0, 1, (1, 1)),), ((1, -1, (1, 1)),), ((0, 0, (1, 3)), (1, 0, (2, 3)))),
    "b": (((0, 0, (1, 1)),), ((1, -2, (1, 1)),), ((0, 5, (1, 4)), (1, 5, (3, 4)))),
})
EIGHT = House({
    "a": tuple((((one + 1) % 8, 1 if one else -6, (1, 1)),) for one in range(8)),
    "b": tuple((((one + 5) % 8, -1 if one else 6, (1, 1)),) for one in range(8)),
})


def all_policies(house):
    """All policies, in Python's order."""
    return list(itertools.product(house.names, repeat=house.size))


def lots_of(house, policy):
    """The moves by a policy at each standing."""
    return [house[name][standing] for standing, name in enumerate(policy)]


def runs_by_chain(house, policy):
    """The runs of a policy, by its chain alone."""
    return chain_runs(*moves_table(lots_of(house, policy)))


def each(seed, many=60, games=(1, 2, 3)):
    """Houses with few policies."""
    houses = list(some_houses(seed, many, games=games)) + [SWAP, SEE, PAR, ONE, STAY, LOST]
    return [house for house in houses if len(house) ** house.size <= 100]


def is_paper_by_definition(house, policy, paper):
    """Whether the equations of a policy paper hold."""
    table, gains = moves_table(lots_of(house, policy))
    values, weights = (numbers(vector) for vector in paper)
    for one, row in enumerate(table):
        if values[one] != sum(by * value for by, value in zip(row, values)):
            return False
        if values[one] + weights[one] != gains[one] + sum(by * weight for by, weight in zip(row, weights)):
            return False
    return True


def is_free_by_definition(house, value):
    """Whether the conditions of a free paper hold."""
    policy, values, weights = value[0], numbers(value[1]), numbers(value[2])
    if values != runs_by_chain(house, policy):
        return False
    for name in house:
        plain = House({name: house[name]})
        behind = [sum(Fraction(*by) * values[to] for to, _, by in moves) for moves in plain[name]]
        led = led_back_by(house, name, weights)
        for one in range(house.size):
            if values[one] < behind[one] or values[one] + weights[one] < led[one]:
                return False
    return True


class Examples(unittest.TestCase):
    def test_of_free_choosing(self):
        self.assertEqual(
            [
                best_runs(SEE),
                best_policies(SEE),
                worth_of_seeing(SEE, ("e", "f")),
                policy_runs(SEE, ("f", "e")),
            ],
            [((1, 1), (1, 1)), (("e", "f"),), ((1, 1), (1, 1)), ((-1, 1), (-1, 1))],
        )

    def test_of_policies(self):
        self.assertEqual(
            [
                best_runs(SWAP),
                policy_runs(SWAP, ("d", "c")),
                policy_homes(SWAP, ("d", "d")),
                is_free_paper(SEE, (("e", "f"), ((1, 1), (1, 1)), ((0, 1), (0, 1)))),
                str(Chooser(SEE, ("e", "f"))),
            ],
            [((1, 2), (1, 2)), ((0, 1), (0, 1)), ((0,),), True, "e at 0, f at 1"],
        )


class Policies(unittest.TestCase):
    def test_what_is_a_policy(self):
        for house in (SWAP, PAR, three_ways()):
            for policy in all_policies(house):
                self.assertIs(is_policy(house, policy), True)
        for value in NOT_POLICIES:
            self.assertIs(is_policy(SWAP, value), False)

    def test_runs_and_homes(self):
        several = 0
        for house in each(91):
            for policy in all_policies(house):
                table, gains = moves_table(lots_of(house, policy))
                self.assertEqual(policy_runs(house, policy), pairs(chain_runs(table, gains)))
                self.assertEqual(policy_homes(house, policy), tuple(chain_homes(table)))
                several += len(policy_homes(house, policy)) > 1
        self.assertGreater(several, 50)

    def test_one_and_eight_standings(self):
        self.assertEqual(policy_runs(ONE, ("a",)), ((3, 1),))
        self.assertEqual(policy_runs(EIGHT, ("a",) * 8), ((1, 8),) * 8)
        self.assertEqual(policy_homes(EIGHT, ("a",) * 8), (tuple(range(8)),))
        self.assertEqual(policy_runs(EIGHT, ("b",) * 8), ((-1, 8),) * 8)

    def test_the_same_game_everywhere(self):
        for house in each(92):
            for name in house:
                self.assertEqual(policy_runs(house, (name,) * house.size), long_runs(house, (name,)))

    def test_papers(self):
        for house in each(93, 30):
            for policy in all_policies(house)[:9]:
                paper = policy_paper(house, policy)
                self.assertIs(is_policy_paper(house, policy, paper), True)
                self.assertTrue(is_paper_by_definition(house, policy, paper))
                self.assertEqual(paper[0], policy_runs(house, policy))
                self.assertLess(max(map(abs, integers_in(paper))), 10 ** 60)

    def test_other_papers(self):
        for house in each(94, 30):
            policy = all_policies(house)[-1]
            values, weights = policy_paper(house, policy)
            more = tuple(pair(Fraction(*one) + Fraction(7, 3)) for one in weights)
            self.assertIs(is_policy_paper(house, policy, (values, more)), True)
            table, _ = moves_table(lots_of(house, policy))
            for home in policy_homes(house, policy):
                into = chain_runs(table, [int(one in home) for one in range(house.size)])
                moved = tuple(pair(Fraction(*one) - 5 * by) for one, by in zip(weights, into))
                self.assertIs(is_policy_paper(house, policy, (values, moved)), True)

    def test_bent_papers(self):
        for house in each(95, 30):
            policy = all_policies(house)[0]
            for other in bent(policy_paper(house, policy)):
                right = is_paper_by_definition(house, policy, other)
                self.assertIs(is_policy_paper(house, policy, other), right)
                # Only the weight of a home of one standing can be exchanged alone.
                self.assertTrue(not right or any(len(home) == 1 for home in policy_homes(house, policy)))
        for value in OTHERS + (((), ()), (((0, 1),), ((0, 1),)), 0):
            self.assertIs(is_policy_paper(SWAP, ("c", "d"), value), False)
        values, weights = policy_paper(SWAP, ("c", "d"))
        for value in ((values,), (values, weights, weights), [values, weights], (list(values), weights)):
            self.assertIs(is_policy_paper(SWAP, ("c", "d"), value), False)
        self.assertIs(is_policy_paper(ONE, ("a",), (((3, 1),), ((0, 1),))), True)
        self.assertIs(is_policy_paper(ONE, ("a",), (((3, True),), ((0, 1),))), False)
        self.assertIs(is_policy_paper(ONE, ("a",), (((6, 2),), ((0, 1),))), False)

    def test_wrong_arguments(self):
        for call in (policy_runs, policy_homes, policy_paper, improved, Chooser):
            for house in NOT_HOUSES:
                refused(self, InvalidHouse, call, house, None)
            for policy in NOT_POLICIES:
                refused(self, InvalidPolicy, call, SWAP, policy)
        for house in NOT_HOUSES:
            refused(self, InvalidHouse, is_policy, house, ("c", "d"))
            refused(self, InvalidHouse, is_policy_paper, house, None, None)
        for policy in NOT_POLICIES:
            refused(self, InvalidPolicy, is_policy_paper, SWAP, policy, None)


class BestRuns(unittest.TestCase):
    def test_against_all_policies(self):
        unlike = 0
        for house in each(96, 150):
            runs = {policy: runs_by_chain(house, policy) for policy in all_policies(house)}
            best = [max(run[one] for run in runs.values()) for one in range(house.size)]
            self.assertEqual(best_runs(house), pairs(best))
            self.assertEqual([best_run(house, one) for one in range(house.size)], list(pairs(best)))
            self.assertEqual(best_policies(house), tuple(policy for policy in runs if runs[policy] == best))
            unlike += len(set(best)) > 1
        self.assertGreater(unlike, 5)

    def test_four_games(self):
        for house in some_houses(97, 12, sizes=(2, 3), games=(4,)):
            best = [max(run) for run in zip(*[runs_by_chain(house, policy) for policy in all_policies(house)])]
            self.assertEqual(best_runs(house), pairs(best))

    def test_eight_standings(self):
        for house in list(some_houses(98, 3, sizes=(8,), games=(2,))) + [EIGHT]:
            best = [max(run) for run in zip(*[numbers(policy_runs(house, one)) for one in all_policies(house)])]
            self.assertEqual(best_runs(house), pairs(best))
            self.assertTrue(all(numbers(policy_runs(house, one)) == best for one in best_policies(house)))

    def test_what_is_won_once_does_not_count(self):
        self.assertEqual(best_runs(STAY), ((1, 1), (1, 1)))
        self.assertEqual(best_policies(STAY), (("stay", "go"),))
        self.assertEqual(best_runs(LOST), ((1, 1), (-1, 1), (-1, 3)))
        self.assertEqual(best_policies(LOST), (("a", "a", "a"),))

    def test_at_least_each_row(self):
        for house in each(99, 40):
            best = numbers(best_runs(house))
            for row in some_rows(9, house, 6):
                runs = numbers(long_runs(house, row))
                self.assertTrue(all(run <= most for run, most in zip(runs, best)))
                self.assertEqual(worth_of_seeing(house, row), pairs(most - run for run, most in zip(runs, best)))

    def test_no_controlled_play_by_histories_gains_more(self):
        # The value of many turns of free choosing, found by leading back, comes near to the best runs.
        for house in each(100, 20):
            best = [float(one) for one in numbers(best_runs(house))]
            total = [0.0] * house.size
            many = 3000
            for _ in range(many):
                total = [
                    max(
                        sum(by[0] / by[1] * (gain + total[to]) for to, gain, by in house[name][one]) for name in house
                    )
                    for one in range(house.size)
                ]
            for most, sum_of in zip(best, total):
                self.assertAlmostEqual(most, sum_of / many, delta=0.02)

    def test_improved(self):
        for house in each(101, 60):
            best = best_policies(house)
            for policy in all_policies(house)[:30]:
                other = improved(house, policy)
                self.assertEqual(other is None, policy in best)
                if other is not None:
                    ahead, behind = runs_by_chain(house, policy), runs_by_chain(house, other)
                    self.assertTrue(all(one <= more for one, more in zip(ahead, behind)))
                    self.assertNotEqual(ahead, behind)

    def test_as_many_policies_as_can_be(self):
        self.assertEqual(module.MAX_POLICIES, 5000)
        source = random.Random(102)
        four = House({name: some_game(source, 6, most_moves=2) for name in "abcd"})
        found = best_policies(four)
        self.assertTrue(found)
        self.assertEqual(list(found), sorted(set(found)))
        self.assertTrue(all(policy_runs(four, policy) == best_runs(four) for policy in found[:50]))
        alike = House({name: four["a"] for name in "abcd"})
        self.assertEqual(best_policies(alike), tuple(all_policies(alike)))

    def test_too_many_policies(self):
        source = random.Random(103)
        for size, games in ((7, "abcd"), (8, "abc"), (8, "abcd")):
            house = House({name: some_game(source, size) for name in games})
            refused(self, TooMany, best_policies, house, limit=5000)
            self.assertIs(is_free_paper(house, free_paper(house)), True)

    def test_wrong_arguments(self):
        for house in NOT_HOUSES:
            for call in (best_runs, best_policies, free_paper):
                refused(self, InvalidHouse, call, house)
            refused(self, InvalidHouse, best_run, house, 9)
            refused(self, InvalidHouse, is_free_paper, house, None)
            refused(self, InvalidHouse, worth_of_seeing, house, None)
        for standing in NOT_STANDINGS:
            refused(self, InvalidNumber, best_run, SWAP, standing, number=standing)
        for row in OTHERS + (("x",), ("c",) * 13, ["c"]):
            refused(self, InvalidRow, worth_of_seeing, SWAP, row)


class FreePapers(unittest.TestCase):
    def test_papers(self):
        for house in each(104, 200):
            paper = free_paper(house)
            self.assertIs(is_free_paper(house, paper), True)
            self.assertTrue(is_free_by_definition(house, paper))
            self.assertEqual(paper[1], best_runs(house))
            self.assertIn(paper[0], best_policies(house))
            self.assertLess(max(map(abs, integers_in(paper))), 10 ** 60)

    def test_many_standings(self):
        for house in list(some_houses(105, 20, sizes=(6, 7, 8), games=(2, 3, 4))) + [EIGHT]:
            paper = free_paper(house)
            self.assertIs(is_free_paper(house, paper), True)
            self.assertTrue(is_free_by_definition(house, paper))

    def test_other_papers(self):
        for house in each(106, 40):
            policy, values, weights = free_paper(house)
            moved = tuple(pair(Fraction(*one) - Fraction(5, 7)) for one in weights)
            raised = tuple(pair(Fraction(*one) + 9 * Fraction(*by)) for one, by in zip(weights, values))
            for other in best_policies(house):
                for more in (moved, raised):
                    self.assertIs(is_free_paper(house, (other, values, more)), True)

    def test_room(self):
        # The play comes from standing 0 to standing 1 for ever: so the weight of standing 0 has room.
        house = House({"a": (((1, 0, (1, 1)),), ((1, 2, (1, 1)),))})
        for weight in ((-2, 1), (-1, 1), (100, 1), (-7, 4)):
            self.assertIs(is_free_paper(house, (("a", "a"), ((2, 1), (2, 1)), (weight, (0, 1)))), True)
        for weight in ((-3, 1), (-9, 4)):
            self.assertIs(is_free_paper(house, (("a", "a"), ((2, 1), (2, 1)), (weight, (0, 1)))), False)

    def test_bent_papers(self):
        for house in each(107, 60):
            paper = free_paper(house)
            for other in bent(paper):
                self.assertIs(is_free_paper(house, other), is_free_by_definition(house, other))
            for policy in all_policies(house)[:20]:
                other = (policy,) + paper[1:]
                self.assertIs(is_free_paper(house, other), policy in best_policies(house))

    def test_what_is_no_paper(self):
        policy, values, weights = free_paper(SEE)
        wrong = (
            (policy, values),
            (policy, values, weights, weights),
            [policy, values, weights],
            (list(policy), values, weights),
            (policy, list(values), weights),
            (policy, values, weights[:1]),
            (policy, values[:1], weights),
            (policy[:1], values, weights),
            (("e", "x"), values, weights),
            (policy, ((1, True), (1, 1)), weights),
            (policy, ((2, 2), (1, 1)), weights),
            (values, weights),
        )
        for value in wrong + OTHERS + (0, SEE):
            self.assertIs(is_free_paper(SEE, value), False)

    def test_short_numbers_where_weights_have_room(self):
        # Each standing but 0 is left at last, by chances with long bottoms: exact weights would be long.
        source = random.Random(108)
        for size, digits in ((4, 25), (6, 20), (8, 30)):
            house = House({name: long_game(source, size, digits) for name in "ab"})
            paper = free_paper(house)
            self.assertIs(is_free_paper(house, paper), True)
            self.assertLess(max(map(abs, integers_in(paper))), 10 ** 60)
            self.assertGreaterEqual(max(map(abs, integers_in(policy_paper(house, paper[0])))), 10 ** 60)


def long_game(source, size, digits):
    """A game in which standing 0 stays for ever, and is come to from each other one by long chances."""
    game = [((0, 0, (1, 1)),)]
    for one in range(1, size):
        bottom = 10 ** digits - source.randint(1, 10 ** (digits - 3))
        parts = [Fraction(source.randint(bottom // 9, bottom // 3), bottom) for _ in range(2)]
        to = source.randint(1, size - 1)
        game.append(((0, -2, pair(parts[0])), (to, -3, pair(parts[1])), (to, 1, pair(1 - sum(parts)))))
    return tuple(game)


class LongNumbers(unittest.TestCase):
    def test_results_that_are_too_long(self):
        tiny, small = Fraction(1, LONGEST), Fraction(1, 10 ** 200 + 1)
        house = House({"a": (
            ((0, 1, pair(1 - tiny)), (1, 0, pair(tiny))),
            ((0, 1, pair(small)), (1, 0, pair(1 - small))),
        )})
        for call in (best_runs, free_paper):
            refused(self, TooMany, call, house, limit=300)
        refused(self, TooMany, best_run, house, 1, limit=300)
        refused(self, TooMany, worth_of_seeing, house.with_game("b", SWAP_GAMES["c"]), ("b",), limit=300)
        for call in (policy_runs, policy_paper, Chooser):
            refused(self, TooMany, call, house, ("a", "a"), limit=300)
        self.assertEqual(policy_homes(house, ("a", "a")), ((0, 1),))
        self.assertEqual(best_policies(house), (("a", "a"),))
        self.assertIs(improved(house, ("a", "a")), None)
        self.assertIs(is_free_paper(house, (("a", "a"), ((1, 1), (1, 1)), ((0, 1), (0, 1)))), False)

    def test_what_is_long_on_the_way_alone(self):
        tiny = Fraction(1, LONGEST)
        game = tuple(((0, 5, pair(by)), (1, 5, pair(1 - by))) for by in (1 - tiny, tiny))
        house = House({"a": game, "b": (game[0], ((0, 4, (1, 3)), (1, 4, (2, 3))))})
        self.assertEqual(best_runs(house), ((5, 1), (5, 1)))
        self.assertEqual(best_policies(house), (("a", "a"), ("b", "a")))
        self.assertIs(is_free_paper(house, free_paper(house)), True)


class Choosers(unittest.TestCase):
    def test_what_it_tells(self):
        chooser = Chooser(PAR, ("a", "b", "a"))
        self.assertEqual((chooser.house, chooser.policy), (PAR, ("a", "b", "a")))
        self.assertEqual(chooser.runs, policy_runs(PAR, ("a", "b", "a")))
        self.assertEqual([chooser.game(one) for one in range(3)], ["a", "b", "a"])
        self.assertEqual((len(chooser), list(chooser), str(chooser)), (3, ["a", "b", "a"], "a at 0, b at 1, a at 2"))
        self.assertEqual(str(Chooser(ONE, ("a",))), "a at 0")

    def test_other_games(self):
        chooser = Chooser(PAR, ("a", "b", "a"))
        self.assertEqual(chooser.with_game(2, "b"), Chooser(PAR, ("a", "b", "b")))
        self.assertEqual(chooser.with_game(0, "a"), chooser)
        self.assertEqual(chooser.policy, ("a", "b", "a"))
        for standing in NOT_STANDINGS + (3,):
            if standing not in (2, 0, 1) or isinstance(standing, bool):
                refused(self, InvalidNumber, chooser.game, standing, number=standing)
                refused(self, InvalidNumber, chooser.with_game, standing, None, number=standing)
        for name in NOT_NAMES:
            refused(self, UnknownGame, chooser.with_game, 0, name, asked=name)

    def test_better_ones(self):
        for house in each(109, 40):
            for policy in all_policies(house)[:12]:
                chooser = Chooser(house, policy)
                self.assertIs(chooser.is_best(), chooser.runs == best_runs(house))
                other = chooser.better()
                self.assertEqual(other is None, chooser.is_best())
                if other is not None:
                    self.assertEqual(other, Chooser(house, improved(house, policy)))

    def test_what_is_in_it(self):
        chooser = Chooser(PAR, ("a", "a", "a"))
        self.assertIn("a", chooser)
        for value in OTHERS + (0, "b", "x", ("a",), ["a"], chooser):
            if value != "a":
                self.assertNotIn(value, chooser)

    def test_equal_ones(self):
        chooser = Chooser(SWAP, ("c", "d"))
        self.assertTrue(chooser == Chooser(House(SWAP_GAMES), ("c", "d")))
        self.assertFalse(chooser != Chooser(House(SWAP_GAMES), ("c", "d")))
        for value in OTHERS + (0, ("c", "d"), SWAP, Chooser(SWAP, ("d", "d")), Chooser(SWAP.turned(), ("c", "d"))):
            self.assertFalse(chooser == value)
            self.assertTrue(chooser != value)


if __name__ == "__main__":
    unittest.main()
