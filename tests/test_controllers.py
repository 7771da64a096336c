"""Stage 10: controllers, which see the gains alone."""

import itertools
import random
import unittest
from fractions import Fraction

from reference import (
    PAR_GAMES,
    SEE_GAMES,
    SWAP_GAMES,
    bent,
    chain_runs,
    integers_in,
    numbers,
    pair,
    pairs,
    some_houses,
    some_rows,
    three_ways,
)
from samples import LONGEST, NOT_STANDINGS, OTHERS, refused
from wonbyturns.base.houses import House
from wonbyturns.base.ratios import Ratio
from wonbyturns.errors import InvalidController, InvalidHouse, InvalidNumber, InvalidOperation, InvalidRow, TooMany
from wonbyturns.free import controllers as module
from wonbyturns.free.controllers import (
    are_alike,
    best_controller,
    controller_paper,
    controller_runs,
    game_behind,
    is_controller,
    is_controller_paper,
    is_least,
    least_controller,
    parting_sight,
    row_controller,
)
from wonbyturns.free.policies import best_run, best_runs
from wonbyturns.play.rounds import long_runs

SWAP = House(SWAP_GAMES)
SEE = House(SEE_GAMES)
PAR = House(PAR_GAMES)
SEER = (("c", {-1: 0, 1: 1}), ("d", {0: 0}))
TURNS = (("c", {-1: 1, 1: 1}), ("d", {0: 0}))
NOT_HOUSES = OTHERS + (0, SWAP_GAMES, Ratio(1))
C, D = {-1: 0, 1: 0}, {0: 0}
NOT_CONTROLLERS = OTHERS + (
    0,
    [("d", D)],
    (["d", D],),
    (("d", D),) * 5,
    (("x", D),),
    (("d",),),
    (("d", D, D),),
    (("d", ((0, 0),)),),
    (("d", {}),),
    (("d", {0: 1}),),
    (("d", {0: -1}),),
    (("d", {0: None}),),
    (("d", {0: False}),),
    (("d", {False: 0}),),
    (("d", {0: 0, 1: 0}),),
    (("d", {1: 0}),),
    (("d", {"0": 0}),),
    (("c", {-1: 0}),),
    (("c", {-1: 0, True: 0}),),
    (("c", {-1: 0, 1: 0, 0: 0}),),
    (("c", C), ("d", {0: 2})),
    (("c", C), ("d", {0: True})),
    (("c", C), None),
    (("c", C), ("d", {0: TypeError})),
)
SIGHTS_OF_NO_GAIN = OTHERS + (0, [], [1], (2,), (0,), (1, 1), (True,), (1, False), (1, None), ("1",), {})


def all_rules(gains, states):
    """All rules for gains."""
    return [dict(zip(gains, to)) for to in itertools.product(range(states), repeat=len(gains))]


def all_controllers(house, states):
    """All controllers with just so many states."""
    each = [(name, rule) for name in house for rule in all_rules(house.gains_of(name), states)]
    return itertools.product(each, repeat=states)


def some_controllers(seed, house, many, most=4):
    """Controllers by a random source with a fixed seed."""
    source = random.Random(seed)
    for _ in range(many):
        states = source.randint(1, most)
        found = []
        for _ in range(states):
            name = source.choice(house.names)
            found.append((name, {gain: source.randrange(states) for gain in house.gains_of(name)}))
        yield tuple(found)


def each(seed, many=40, most=4):
    """Houses with controllers of theirs."""
    for at, house in enumerate(list(some_houses(seed, many)) + [SWAP, SEE, PAR]):
        for controller in some_controllers(seed + at, house, 3, most):
            yield house, controller


def chain_of(house, controller):
    """The table and the gains of all states with all standings."""
    places = list(itertools.product(range(len(controller)), range(house.size)))
    table, gains = [], []
    for state, standing in places:
        name, rule = controller[state]
        row = dict.fromkeys(places, Fraction(0))
        for to, gain, by in house[name][standing]:
            row[rule[gain], to] += Fraction(*by)
        table.append([row[place] for place in places])
        gains.append(sum(gain * Fraction(*by) for _, gain, by in house[name][standing]))
    return table, gains


def is_paper_by_definition(house, controller, paper):
    """Whether the equations of a paper hold."""
    table, gains = chain_of(house, controller)
    values, weights = ([Fraction(*one) for row in part for one in row] for part in paper)
    for at, row in enumerate(table):
        if values[at] != sum(by * one for by, one in zip(row, values)):
            return False
        if values[at] + weights[at] != gains[at] + sum(by * one for by, one in zip(row, weights)):
            return False
    return True


def sights(house, one, length):
    """All sights of a controller with a length, with the games behind them."""
    found = [((), 0)]
    for _ in range(length):
        found = [(sight + (gain,), one[at][1][gain]) for sight, at in found for gain in sorted(one[at][1])]
    return {sight: one[at][0] for sight, at in found}


def parting_by_definition(house, one, other, most=9):
    """The least parting sight of at most so many gains, or None."""
    for length in range(most + 1):
        ahead, behind = sights(house, one, length), sights(house, other, length)
        for sight in sorted(ahead):
            if sight in behind and ahead[sight] != behind[sight]:
                return sight
    return None


class Examples(unittest.TestCase):
    def test_of_rows(self):
        one = row_controller(SWAP, ("c", "d"))
        self.assertEqual(
            [
                SWAP.gains_of("c"),
                one,
                controller_runs(SWAP, one),
                game_behind(SWAP, one, (1, 0, -1)),
                is_least(SWAP, one),
            ],
            [(-1, 1), (("c", {-1: 1, 1: 1}), ("d", {0: 0})), ((1, 2), (1, 2)), "d", True],
        )

    def test_of_a_seer(self):
        one = row_controller(SWAP, ("c", "d"))
        self.assertEqual(
            [
                controller_runs(SWAP, SEER),
                parting_sight(SWAP, one, SEER),
                are_alike(SWAP, one, row_controller(SWAP, ("c", "d", "c", "d"))),
            ],
            [((1, 2), (1, 2)), (-1,), True],
        )


class Controllers(unittest.TestCase):
    def test_what_is_a_controller(self):
        for house, controller in each(111):
            self.assertIs(is_controller(house, controller), True)
        for value in NOT_CONTROLLERS:
            self.assertIs(is_controller(SWAP, value), False)
        self.assertIs(is_controller(SWAP, (("c", {1: 0, -1: 0}),)), True)

    def test_of_rows(self):
        for house in list(some_houses(112, 30)) + [SWAP, PAR]:
            for row in some_rows(112, house, 4, 4):
                controller = row_controller(house, row)
                self.assertEqual([name for name, _ in controller], list(row))
                for at, (name, rule) in enumerate(controller):
                    self.assertEqual(list(rule), list(house.gains_of(name)))
                    self.assertEqual(set(rule.values()), {(at + 1) % len(row)})
                self.assertEqual(controller_runs(house, controller), long_runs(house, row))
        self.assertEqual((module.MAX_STATES, module.MAX_TRIED), (4, 5000))
        for many in (5, 12):
            refused(self, TooMany, row_controller, SWAP, ("c",) * many, limit=4)

    def test_no_shared_state(self):
        one = row_controller(SWAP, ("c", "c"))
        one[0][1][1] = 7
        self.assertEqual(row_controller(SWAP, ("c", "c")), (("c", {-1: 1, 1: 1}), ("c", {-1: 0, 1: 0})))
        given = (("c", {1: 0, -1: 1}), ("d", {0: 0}))
        least_controller(SWAP, given)[0][1][1] = 7
        controller_paper(SWAP, given)
        self.assertEqual([list(rule.items()) for _, rule in given], [[(1, 0), (-1, 1)], [(0, 0)]])

    def test_runs(self):
        for house, controller in each(113):
            runs = chain_runs(*chain_of(house, controller))
            self.assertEqual(controller_runs(house, controller), pairs(runs[:house.size]))
            self.assertTrue(all(run <= most for run, most in zip(runs, numbers(best_runs(house)))))

    def test_runs_at_edges(self):
        one = House({"a": (((0, 3, (1, 2)), (0, 4, (1, 2))),)})
        self.assertEqual(controller_runs(one, (("a", {3: 0, 4: 0}),)), ((7, 2),))
        house = three_ways()
        gains = house.gains_of("a")
        single = (("a", {gain: 0 for gain in gains}),)
        self.assertEqual(controller_runs(house, single), long_runs(house, ("a",)))
        four = tuple(("a", {gain: (at + gain) % 4 for gain in gains}) for at in range(4))
        self.assertEqual(controller_runs(house, four), long_runs(house, ("a",)))
        # A state that no sight comes to plays no part.
        self.assertEqual(controller_runs(SWAP, SEER + (("c", {-1: 2, 1: 2}),)), controller_runs(SWAP, SEER))

    def test_papers(self):
        for house, controller in each(114, 20, 3):
            paper = controller_paper(house, controller)
            self.assertIs(is_controller_paper(house, controller, paper), True)
            self.assertTrue(is_paper_by_definition(house, controller, paper))
            self.assertEqual(paper[0][0], controller_runs(house, controller))
            self.assertEqual({len(part) for part in paper}, {len(controller)})
            self.assertLess(max(map(abs, integers_in(paper))), 10 ** 60)
            values, weights = paper
            moved = tuple(tuple(pair(Fraction(*one) + 3) for one in row) for row in weights)
            self.assertIs(is_controller_paper(house, controller, (values, moved)), True)
            for other in bent(paper):
                right = is_paper_by_definition(house, controller, other)
                self.assertIs(is_controller_paper(house, controller, other), right)

    def test_what_is_no_paper(self):
        values, weights = controller_paper(SWAP, SEER)
        wrong = (
            (values,),
            (values, weights, weights),
            [values, weights],
            (list(values), weights),
            (values[:1], weights),
            (values, weights[:1]),
            (values, weights + weights[:1]),
            (values, (weights[0], list(weights[1]))),
            (values, (weights[0], weights[1][:1])),
            (values, (weights[0][:1], weights[1] + weights[0][1:])),
            (values, (weights[0], ((0, True), weights[1][1]))),
            (values[0], weights[0]),
        )
        for value in wrong + OTHERS + (0,):
            self.assertIs(is_controller_paper(SWAP, SEER, value), False)

    def test_games_behind_sights(self):
        for house, controller in each(115, 20):
            for length in range(4):
                for sight, name in sights(house, controller, length).items():
                    self.assertEqual(game_behind(house, controller, sight), name)
        self.assertEqual(game_behind(SWAP, SEER, ()), "c")
        self.assertEqual(game_behind(SWAP, SEER, (-1,) * 5000 + (1,)), "d")
        for sight in SIGHTS_OF_NO_GAIN:
            if sight not in ((), (1,)) or sight == (True,) and sight[0] is True:
                refused(self, InvalidOperation, game_behind, SWAP, SEER, sight)

    def test_wrong_arguments(self):
        calls = (controller_runs, controller_paper, least_controller, is_least)
        for house in NOT_HOUSES:
            for call in (is_controller, row_controller) + calls:
                refused(self, InvalidHouse, call, house, None)
            for call in (is_controller_paper, game_behind, parting_sight, are_alike):
                refused(self, InvalidHouse, call, house, None, None)
        for value in NOT_CONTROLLERS:
            for call in calls:
                refused(self, InvalidController, call, SWAP, value)
            for call in (is_controller_paper, game_behind, parting_sight, are_alike):
                refused(self, InvalidController, call, SWAP, value, None)
            for call in (parting_sight, are_alike):
                refused(self, InvalidController, call, SWAP, SEER, value)
        for row in OTHERS + (("x",) * 5, ("c",) * 13, ["c"]):
            refused(self, InvalidRow, row_controller, SWAP, row)

    def test_long_numbers(self):
        tiny, small = Fraction(1, LONGEST), Fraction(1, 10 ** 200 + 1)
        house = House({"a": (
            ((0, 1, pair(1 - tiny)), (1, 0, pair(tiny))),
            ((0, 1, pair(small)), (1, 0, pair(1 - small))),
        )})
        rule = {gain: 0 for gain in house.gains_of("a")}
        for call in (controller_runs, controller_paper):
            refused(self, TooMany, call, house, (("a", rule),), limit=300)


class Alike(unittest.TestCase):
    def test_parting_sights(self):
        found = {}
        for house in list(some_houses(116, 60, games=(2, 3))) + [SWAP, SEE]:
            if len(house.seen) < 4:
                controllers = list(some_controllers(117, house, 6))
                for one, other in itertools.product(controllers, repeat=2):
                    sight = parting_sight(house, one, other)
                    self.assertEqual(parting_by_definition(house, one, other), sight)
                    self.assertIs(are_alike(house, one, other), sight is None)
                    found[None if sight is None else len(sight)] = True
        self.assertGreater(len(found), 3)

    def test_a_long_parting_sight(self):
        late = (("c", {-1: 1, 1: 0}), ("c", {-1: 2, 1: 0}), ("c", {-1: 3, 1: 0}), ("d", {0: 0}))
        never = (("c", {-1: 0, 1: 0}),)
        self.assertEqual(parting_sight(SWAP, late, never), (-1, -1, -1))
        self.assertEqual(parting_sight(SWAP, never, late), (-1, -1, -1))
        self.assertEqual(parting_sight(SWAP, late, (("d", {0: 0}),)), ())

    def test_least_controllers(self):
        for house, controller in each(118, 60):
            least = least_controller(house, controller)
            self.assertIs(is_controller(house, least), True)
            self.assertIs(are_alike(house, controller, least), True)
            self.assertEqual(controller_runs(house, controller), controller_runs(house, least))
            self.assertIs(is_least(house, least), True)
            self.assertEqual(least_controller(house, least), least)
            self.assertIs(is_least(house, controller), controller == least)
            self.assertEqual([list(rule) for _, rule in least], [sorted(rule) for _, rule in least])
            self.assertTrue(is_least_by_definition(house, least))

    def test_is_least(self):
        kinds = set()
        for house in (SWAP, SEE):
            for states in (1, 2, 3):
                for controller in itertools.islice(all_controllers(house, states), 0, None, 7):
                    right = is_least_by_definition(house, controller)
                    self.assertIs(is_least(house, controller), right)
                    kinds.add((states, right))
        self.assertEqual(len(kinds), 5)

    def test_no_smaller_one_is_alike(self):
        for controller in some_controllers(119, SWAP, 40, 3):
            least = least_controller(SWAP, controller)
            for states in range(1, len(least)):
                for other in all_controllers(SWAP, states):
                    self.assertIs(are_alike(SWAP, controller, other), False)

    def test_states_that_are_put_in_order(self):
        turned = (("c", {-1: 2, 1: 2}), ("c", {-1: 1, 1: 1}), ("d", {0: 0}))
        self.assertEqual(least_controller(SWAP, turned), TURNS)
        self.assertIs(is_least(SWAP, turned), False)
        three = (("c", {-1: 2, 1: 1}), ("d", {0: 1}), ("c", {-1: 2, 1: 2}))
        self.assertEqual(
            least_controller(SWAP, three), (("c", {-1: 1, 1: 2}), ("c", {-1: 1, 1: 1}), ("d", {0: 2}))
        )


def is_least_by_definition(house, controller):
    """Whether all states are come to, in their order, and no two of them make alike controllers."""
    order = [0]
    waiting = [0]
    while waiting:
        rule = controller[waiting.pop(0)][1]
        for gain in sorted(rule):
            if rule[gain] not in order:
                order.append(rule[gain])
                waiting.append(rule[gain])
    if order != list(range(len(controller))):
        return False
    states = range(len(controller))
    for one, other in itertools.combinations(states, 2):
        begun = []
        for start in (one, other):
            # The state from which it begins, is exchanged with the first one.
            places = {0: start, start: 0}
            new = [controller[places.get(at, at)] for at in states]
            begun.append(tuple((name, {gain: places.get(to, to) for gain, to in rule.items()}) for name, rule in new))
        if parting_by_definition(house, *begun, most=len(controller) + 1) is None:
            return False
    return True


class BestControllers(unittest.TestCase):
    def test_against_all_controllers(self):
        unlike = 0
        houses = [house for house in some_houses(120, 60, sizes=(1, 2, 3)) if len(house.seen) < 4]
        for house in houses[:12] + [SWAP, SEE, PAR]:
            last = None
            for states in (1, 2):
                runs = [chain_runs(*chain_of(house, one))[:house.size] for one in all_controllers(house, states)]
                for standing in range(house.size):
                    found = best_controller(house, states, standing)
                    self.assertIs(is_controller(house, found), True)
                    self.assertLessEqual(len(found), states)
                    most = max(run[standing] for run in runs)
                    self.assertEqual(controller_runs(house, found)[standing], pair(most))
                    self.assertLessEqual(most, Fraction(*best_run(house, standing)))
                unlike += last is not None and most > last
                last = most
        self.assertGreater(unlike, 1)

    def test_three_and_four_states(self):
        most = max(Fraction(*controller_runs(SWAP, one)[0]) for one in all_controllers(SWAP, 3))
        self.assertEqual(controller_runs(SWAP, best_controller(SWAP, 3, 0))[0], pair(most))
        # With four states there are few enough controllers only where each game has one gain.
        house = House({"a": (((1, 4, (1, 1)),), ((0, 4, (1, 2)), (1, 4, (1, 2)))), "b": (((0, 5, (1, 1)),),) * 2})
        for states in (1, 2, 3, 4):
            self.assertEqual(controller_runs(house, best_controller(house, states, 1)), ((5, 1), (5, 1)))

    def test_too_many_controllers(self):
        for house, states in ((SEE, 3), (SEE, 4), (SWAP, 4), (PAR, 3), (three_ways(), 4)):
            refused(self, TooMany, best_controller, house, states, 0, limit=5000)
        # Two games with one gain each make 8 ** 4 controllers with four states, and three make 12 ** 4.
        two = House({"a": (((0, 1, (1, 1)),),), "b": (((0, 2, (1, 1)),),)})
        self.assertEqual(controller_runs(two, best_controller(two, 4, 0)), ((2, 1),))
        refused(self, TooMany, best_controller, two.with_game("c", (((0, 3, (1, 1)),),)), 4, 0, limit=5000)

    def test_wrong_arguments(self):
        for house in NOT_HOUSES:
            refused(self, InvalidHouse, best_controller, house, 9, 9)
        for states in NOT_STANDINGS + (5,):
            if states not in (2, 1) or isinstance(states, bool):
                refused(self, InvalidNumber, best_controller, PAR, states, 9, number=states)
        for standing in NOT_STANDINGS + (3,):
            if standing != 2:
                refused(self, InvalidNumber, best_controller, PAR, 4, standing, number=standing)
        refused(self, InvalidNumber, best_controller, PAR, 0, 9, number=0)


if __name__ == "__main__":
    unittest.main()
