"""The promise [0.13] of wide games, and stage 13."""

import itertools
import random
import unittest
from fractions import Fraction

from reference import (
    SEE_GAMES,
    SWAP_GAMES,
    bent,
    chain_runs,
    integers_in,
    moves_table,
    numbers,
    pair,
    pairs,
    some_game,
    some_houses,
)
from samples import LONGEST, NOT_NAMES, NOT_STANDINGS, OTHERS, refused
from wonbyturns.base.houses import House
from wonbyturns.base.ratios import Ratio
from wonbyturns.errors import InvalidHouse, InvalidNumber, InvalidOperation, InvalidRow, TooMany, UnknownGame
from wonbyturns.play.rounds import long_runs
from wonbyturns.wide import stretches as module
from wonbyturns.wide.stretches import (
    WideHouse,
    chosen_house,
    chosen_row,
    greatest_runs,
    is_choice,
    is_wide_game,
    is_wide_paper,
    least_runs,
    possibly,
    surely,
    wide_paper,
    widened,
    widened_by,
)

SWAP = House(SWAP_GAMES)
SEE = House(SEE_GAMES)
LOW, HIGH = ((0, -1, (2, 3)), (0, 1, (1, 3))), ((0, -1, (1, 3)), (0, 1, (2, 3)))
STILL = ((0, 0, (1, 1)),)
WIDE = WideHouse({"u": ((LOW, HIGH),)})
# Standing 0 has three alternatives, standing 1 one of them.
TWO = WideHouse({
    "x": ((((0, 1, (1, 1)),), ((1, 0, (1, 1)),), ((0, -1, (1, 2)), (1, 2, (1, 2)))), (((1, -1, (1, 1)),),)),
    "y": ((((1, 1, (1, 1)),),), (((0, 1, (1, 1)),), ((1, 3, (1, 1)),))),
})
NOT_WIDE = OTHERS + (0, SWAP, {"u": ((LOW, HIGH),)}, Ratio(1))
NOT_ROWS = OTHERS + (0, (), ("x",) * 5, ["x"], ("z",), ("x", None), ("x", ["y"]), "xy", {"x": 1})
SIDES = ("least", "greatest")


def some_wide(seed, many, sizes=(1, 2, 3), games=(1, 2)):
    """Wide houses by a random source with a fixed seed."""
    source = random.Random(seed)
    for _ in range(many):
        size = source.choice(sizes)
        found = {}
        for name in "abcd"[:source.choice(games)]:
            lots = [some_game(source, size, most_moves=3) for _ in range(3)]
            found[name] = tuple(
                tuple(dict.fromkeys([game[one] for game in lots[:source.randint(1, 3)]])) for one in range(size)
            )
        yield WideHouse(found)


def all_choices(wide, row):
    """All choices for a row."""
    lots = [itertools.product(*[range(len(own)) for own in wide[name]]) for name in row]
    return list(itertools.product(*lots))


def each(seed, many=80, turns=(1, 2, 3), most=120):
    """Wide houses with rows and all choices for them, where these are not too many."""
    source = random.Random(seed)
    for wide in list(some_wide(seed, many)) + [WIDE, TWO]:
        row = tuple(source.choice(wide.names) for _ in range(source.choice(turns)))
        choices = all_choices(wide, row)
        if len(choices) <= most:
            yield wide, row, choices


def turns_of(wide, row, choice):
    """The moves at each turn and standing by a choice."""
    return [[wide[name][one][index] for one, index in enumerate(picks)] for name, picks in zip(row, choice)]


def runs_by_chain(wide, row, choice):
    """The long runs by a choice from all standings, by the chain of all turns with all standings."""
    turns = turns_of(wide, row, choice)
    size = wide.standings
    table, gains = [], []
    for at, lots in enumerate(turns):
        rows, means = moves_table(lots)
        behind = (at + 1) % len(turns)
        table += [[Fraction(0)] * size * behind + one + [Fraction(0)] * size * (len(turns) - behind - 1) for one in rows]
        gains += means
    return chain_runs(table, gains)[:size]


def is_paper_by_definition(wide, row, side, paper):
    """Whether the conditions of a wide paper hold."""
    choice, values, weights = paper[0], [numbers(one) for one in paper[1]], [numbers(one) for one in paper[2]]
    sign = 1 if side == "least" else -1
    for at, name in enumerate(row):
        behind = (at + 1) % len(row)
        for one, lots in enumerate(wide[name]):
            for index, moves in enumerate(lots):
                value = sum(Fraction(*by) * values[behind][to] for to, _, by in moves)
                weight = sum(Fraction(*by) * (gain + weights[behind][to]) for to, gain, by in moves)
                own = values[at][one]
                falls = [sign * (value - own), sign * (weight - own - weights[at][one])]
                if min(falls) < 0 or (choice[at][one] == index and falls != [0, 0]):
                    return False
    return True


class Examples(unittest.TestCase):
    def test_of_runs(self):
        self.assertEqual(
            [
                least_runs(WIDE, ("u",)),
                greatest_runs(WIDE, ("u",)),
                surely(WIDE, ("u",)),
                possibly(WIDE, ("u",)),
                str(WIDE),
                WIDE.widths,
            ],
            [((-1, 3),), ((1, 3),), ("open",), (("even", "loses", "wins"),), "1 wide games, 1 standings", {"u": (2,)}],
        )

    def test_of_papers(self):
        self.assertEqual(
            [
                is_wide_paper(WIDE, ("u",), "least", (((0,),), (((-1, 3),),), (((0, 1),),))),
                chosen_row(WIDE, ("u", "u")),
                WIDE.played({"u": (1,)})["u"],
            ],
            [True, ("ta", "tb"), (((0, -1, (1, 3)), (0, 1, (2, 3))),)],
        )


class WideGames(unittest.TestCase):
    def test_what_is_a_wide_game(self):
        self.assertEqual(module.MAX_ALTERNATIVES, 3)
        for wide in some_wide(201, 60, sizes=(1, 2, 8)):
            for name in wide:
                self.assertIs(is_wide_game(wide[name]), True)
        for value in (((STILL,),), ((LOW, HIGH, STILL),), ((HIGH, LOW),)):
            self.assertIs(is_wide_game(value), True)
        wrong = (
            ((),),
            (STILL,),
            ((LOW, LOW),),
            ((LOW, HIGH, STILL, ((0, 1, (1, 1)),)),),
            ([LOW],),
            [(LOW,)],
            ((list(LOW),),),
            ((LOW[::-1],),),
            ((((0, -1, (2, 3)), (0, 1, (1, 2))),),),
            ((((1, 0, (1, 1)),),),),
            ((((0, 100, (1, 1)),),),),
            ((((0, True, (1, 1)),),),),
            ((((False, 0, (1, 1)),),),),
            ((((0, 0, (1, 1)), (0, 1, (0, 1))),),),
            ((tuple((0, gain, (1, 13)) for gain in range(13)),),),
            ((STILL,),) * 9,
            ((LOW,), ()),
            ((LOW,), None),
        )
        for value in wrong + OTHERS + (0, SWAP, WIDE, SWAP["c"]):
            self.assertIs(is_wide_game(value), False)

    def test_wide_houses(self):
        self.assertEqual((TWO.names, TWO.standings, len(TWO), list(TWO)), (("x", "y"), 2, 2, ["x", "y"]))
        self.assertEqual(TWO.widths, {"x": (3, 1), "y": (1, 2)})
        self.assertEqual(str(TWO), "2 wide games, 2 standings")
        self.assertEqual(list(WideHouse({"b": TWO["x"], "a": TWO["y"]}).games), ["a", "b"])
        self.assertEqual(list(WideHouse({"b": TWO["x"], "a": TWO["y"]}).widths), ["a", "b"])
        self.assertEqual(WideHouse(TWO.games), TWO)

    def test_what_is_no_wide_house(self):
        game = ((LOW, HIGH),)
        wrong = (
            {},
            {"U": game},
            {"u": SWAP["c"]},
            {"u": game, "v": TWO["x"]},
            {name: game for name in "abcde"},
            {"u": game, 1: game},
            {("u",): game},
            [("u", game)],
        )
        for games in wrong + OTHERS + (0, WIDE, SWAP):
            refused(self, InvalidHouse, WideHouse, games)

    def test_no_shared_state(self):
        games = {"u": ((LOW, HIGH),)}
        wide = WideHouse(games)
        games["u"] = games["v"] = None
        wide.games["u"] = None
        wide.widths["u"] = None
        self.assertEqual((wide, wide.widths), (WIDE, {"u": (2,)}))

    def test_items(self):
        self.assertEqual(TWO["x"][1], (((1, -1, (1, 1)),),))
        for name in NOT_NAMES:
            if name != "x":
                refused(self, UnknownGame, TWO.__getitem__, name, asked=name)
                self.assertNotIn(name, TWO)
        self.assertIn("x", TWO)

    def test_equal_ones(self):
        self.assertTrue(TWO == WideHouse(TWO.games))
        self.assertFalse(TWO != WideHouse(TWO.games))
        turned = WideHouse({"u": ((HIGH, LOW),)})
        for value in OTHERS + (0, TWO, turned, WIDE.games, SWAP):
            self.assertFalse(WIDE == value)
            self.assertTrue(WIDE != value)

    def test_played(self):
        for wide in some_wide(202, 40):
            for picks in itertools.product(*[all_choices(wide, (name,))[:6] for name in wide]):
                house = wide.played({name: own for name, (own,) in zip(wide, picks)})
                for name, (own,) in zip(wide, picks):
                    self.assertEqual(house[name], tuple(lots[index] for lots, index in zip(wide[name], own)))
                self.assertEqual(house.names, wide.names)

    def test_wrong_picks(self):
        wrong = (
            {},
            {"x": (0, 0)},
            {"x": (0, 0), "y": (0, 0), "z": (0, 0)},
            {"x": (0, 0), "z": (0, 0)},
            {"x": (0, 0), "y": (0,)},
            {"x": (0, 0), "y": (0, 0, 0)},
            {"x": (3, 0), "y": (0, 0)},
            {"x": (0, 1), "y": (0, 0)},
            {"x": (-1, 0), "y": (0, 0)},
            {"x": (0, False), "y": (0, 0)},
            {"x": (0, 0), "y": [0, 0]},
            {"x": (0, 0), "y": None},
            (("x", (0, 0)), ("y", (0, 0))),
        )
        for picks in wrong + OTHERS + (0, TWO):
            refused(self, InvalidOperation, TWO.played, picks)

    def test_tight(self):
        self.assertIs(widened(SEE).tight(), True)
        self.assertIs(WIDE.tight(), False)
        self.assertIs(TWO.tight(), False)

    def test_with_alternative(self):
        more = WIDE.with_alternative("u", 0, STILL)
        self.assertEqual(more["u"], ((LOW, HIGH, STILL),))
        self.assertEqual(WIDE["u"], ((LOW, HIGH),))
        self.assertEqual(TWO.with_alternative("y", 0, STILL)["y"], (TWO["y"][0] + (STILL,), TWO["y"][1]))
        for name in NOT_NAMES:
            if name != "x":
                refused(self, UnknownGame, TWO.with_alternative, name, None, None, asked=name)
        for standing in NOT_STANDINGS:
            refused(self, InvalidNumber, TWO.with_alternative, "x", standing, None, number=standing)
        refused(self, InvalidHouse, more.with_alternative, "u", 0, ((0, 5, (1, 1)),))
        refused(self, InvalidHouse, WIDE.with_alternative, "u", 0, LOW)
        refused(self, InvalidHouse, WIDE.with_alternative, "u", 0, ((1, 0, (1, 1)),))
        for moves in OTHERS + (0, (LOW,), SWAP):
            refused(self, InvalidHouse, WIDE.with_alternative, "u", 0, moves)

    def test_widened(self):
        for house in list(some_houses(203, 30)) + [SWAP, SEE]:
            wide = widened(house)
            self.assertEqual((wide.names, wide.standings, wide.tight()), (house.names, house.size, True))
            self.assertEqual(wide.played({name: (0,) * house.size for name in house}), house)
            self.assertEqual(widened_by(house, house), wide)
            for row in [(house.names[0],), house.names[-1:] * 3]:
                self.assertEqual((least_runs(wide, row), greatest_runs(wide, row)), (long_runs(house, row),) * 2)

    def test_widened_by(self):
        more = SEE.with_game("f", (SEE["f"][0], SEE["e"][1]))
        wide = widened_by(SEE, more)
        self.assertEqual(wide.widths, {"e": (1, 1), "f": (1, 2)})
        self.assertEqual(wide["f"], ((SEE["f"][0],), (SEE["f"][1], SEE["e"][1])))
        both = widened_by(SWAP, SWAP.turned())
        self.assertEqual(both.played({"c": (1, 1), "d": (0, 0)}), SWAP.turned())
        self.assertEqual(both.widths, {"c": (2, 2), "d": (1, 1)})

    def test_widened_by_with_wrong_arguments(self):
        for value in OTHERS + (0, SWAP_GAMES, WIDE):
            refused(self, InvalidHouse, widened, value)
            refused(self, InvalidHouse, widened_by, value, None)
            refused(self, InvalidHouse, widened_by, SWAP, value)
        one = House({"c": (STILL,), "d": (STILL,)})
        for other in (SEE, one, SWAP.without("c"), SWAP.with_game("e", SWAP["c"])):
            refused(self, InvalidOperation, widened_by, SWAP, other)


class Choices(unittest.TestCase):
    def test_choices(self):
        for wide, row, choices in each(204, 40):
            for choice in choices[:20]:
                self.assertIs(is_choice(wide, row, choice), True)
                house = chosen_house(wide, row, choice)
                names = chosen_row(wide, row)
                self.assertEqual(names, ("ta", "tb", "tc", "td")[:len(row)])
                self.assertEqual(house.names, names)
                self.assertEqual([house[name] for name in names], [tuple(lots) for lots in turns_of(wide, row, choice)])
                self.assertEqual(long_runs(house, names), pairs(runs_by_chain(wide, row, choice)))

    def test_what_is_no_choice(self):
        wrong = (
            ((0, 0),),
            ((0, 0), (0, 0), (0, 0)),
            ((0, 0), (0,)),
            ((0, 0), (0, 2)),
            ((0, 0), (1, 0)),
            ((3, 0), (0, 0)),
            ((0, 0), (0, -1)),
            ((0, 0), (0, True)),
            ((0, 0), [0, 0]),
            [(0, 0), (0, 0)],
            ((0, 0), None),
            (0, 0),
        )
        for value in wrong + OTHERS + (0, WIDE):
            self.assertIs(is_choice(TWO, ("x", "y"), value), False)
            refused(self, InvalidOperation, chosen_house, TWO, ("x", "y"), value)
        self.assertIs(is_choice(TWO, ("x", "y"), ((2, 0), (0, 1))), True)
        self.assertIs(is_choice(TWO, ("y", "x"), ((2, 0), (0, 1))), False)

    def test_four_turns(self):
        row = ("u",) * 4
        self.assertEqual(chosen_row(WIDE, row), ("ta", "tb", "tc", "td"))
        house = chosen_house(WIDE, row, ((0,), (1,), (1,), (1,)))
        self.assertEqual(long_runs(house, ("ta", "tb", "tc", "td")), ((1, 6),))

    def test_wrong_arguments(self):
        for wide in NOT_WIDE:
            for call in (chosen_row, least_runs, greatest_runs, surely, possibly):
                refused(self, InvalidHouse, call, wide, None)
            for call in (is_choice, chosen_house, wide_paper):
                refused(self, InvalidHouse, call, wide, None, None)
            refused(self, InvalidHouse, is_wide_paper, wide, None, None, None)
        for row in NOT_ROWS:
            for call in (chosen_row, least_runs, greatest_runs, surely, possibly):
                refused(self, InvalidRow, call, TWO, row)
            for call in (is_choice, chosen_house, wide_paper):
                refused(self, InvalidRow, call, TWO, row, None)
            refused(self, InvalidRow, is_wide_paper, TWO, row, None, None)
        for side in OTHERS + (0, "Least", "least ", "even", ("least",), b"least"):
            refused(self, InvalidOperation, wide_paper, TWO, ("x",), side)
            refused(self, InvalidOperation, is_wide_paper, TWO, ("x",), side, None)


class Runs(unittest.TestCase):
    def test_against_all_choices(self):
        words = set()
        for wide, row, choices in each(205, 150):
            runs = [runs_by_chain(wide, row, choice) for choice in choices]
            least = [min(one) for one in zip(*runs)]
            greatest = [max(one) for one in zip(*runs)]
            self.assertEqual(least_runs(wide, row), pairs(least))
            self.assertEqual(greatest_runs(wide, row), pairs(greatest))
            for one, (low, high) in enumerate(zip(least, greatest)):
                own = [run[one] for run in runs]
                if all(run > 0 for run in own):
                    word = "wins"
                elif all(run < 0 for run in own):
                    word = "loses"
                else:
                    word = "even" if all(run == 0 for run in own) else "open"
                self.assertEqual(surely(wide, row)[one], word)
                wanted = [("even", low <= 0 <= high), ("loses", low < 0), ("wins", high > 0)]
                self.assertEqual(possibly(wide, row)[one], tuple(told for told, holds in wanted if holds))
                words.add(surely(wide, row)[one])
                words.add(possibly(wide, row)[one])
        self.assertGreater(len(words), 7)

    def test_even(self):
        house = widened(House({"a": (STILL,)}))
        self.assertEqual((surely(house, ("a",)), possibly(house, ("a",))), (("even",), (("even",),)))

    def test_a_row_begun_later_and_twice(self):
        for wide, row, _ in each(206, 30, turns=(1, 2)):
            for call in (least_runs, greatest_runs):
                # The twice played row has more choices, but no better ones.
                self.assertEqual(call(wide, row * 2), call(wide, row))

    def test_other_play_is_no_better(self):
        # Leading back many turns with the best alternative each time comes near to the greatest runs.
        for wide, row, _ in each(207, 25):
            total = [0.0] * wide.standings
            rounds = 2000
            for name in row[::-1] * rounds:
                total = [
                    max(sum(by[0] / by[1] * (gain + total[to]) for to, gain, by in moves) for moves in lots)
                    for lots in wide[name]
                ]
            for run, most in zip(numbers(greatest_runs(wide, row)), total):
                self.assertAlmostEqual(float(run), most / rounds / len(row), delta=0.02)

    def test_eight_standings_and_four_turns(self):
        for wide in some_wide(208, 4, sizes=(8,), games=(4,)):
            row = ("a", "b", "c", "d")
            for side, call in zip(SIDES, (least_runs, greatest_runs)):
                paper = wide_paper(wide, row, side)
                self.assertIs(is_wide_paper(wide, row, side, paper), True)
                self.assertTrue(is_paper_by_definition(wide, row, side, paper))
                self.assertEqual(paper[1][0], call(wide, row))

    def test_long_numbers(self):
        tiny, small = Fraction(1, LONGEST), Fraction(1, 10 ** 200 + 1)
        moves = (
            ((0, 1, pair(1 - tiny)), (1, 0, pair(tiny))),
            ((0, 1, pair(small)), (1, 0, pair(1 - small))),
        )
        wide = widened(House({"a": moves}))
        for call in (least_runs, greatest_runs):
            refused(self, TooMany, call, wide, ("a",), limit=300)
        for side in SIDES:
            refused(self, TooMany, wide_paper, wide, ("a",), side, limit=300)
            self.assertIs(is_wide_paper(wide, ("a",), side, (((0, 0),), (((1, 1),) * 2,), (((0, 1),) * 2,))), False)


class Papers(unittest.TestCase):
    def test_papers(self):
        for wide, row, _ in each(209, 200):
            for side, call in zip(SIDES, (least_runs, greatest_runs)):
                paper = wide_paper(wide, row, side)
                self.assertIs(is_wide_paper(wide, row, side, paper), True)
                self.assertTrue(is_paper_by_definition(wide, row, side, paper))
                self.assertEqual(paper[1][0], call(wide, row))
                self.assertIs(is_choice(wide, row, paper[0]), True)
                self.assertEqual(paper[1][0], pairs(runs_by_chain(wide, row, paper[0])))
                self.assertLess(max(map(abs, integers_in(paper))), 10 ** 60)

    def test_other_papers(self):
        for wide, row, choices in each(210, 40):
            for side in SIDES:
                choice, values, weights = wide_paper(wide, row, side)
                moved = tuple(tuple(pair(Fraction(*one) + Fraction(4, 9)) for one in vector) for vector in weights)
                self.assertIs(is_wide_paper(wide, row, side, (choice, values, moved)), True)
                raised = tuple(
                    tuple(pair(Fraction(*one) + 2 * Fraction(*by)) for one, by in zip(vector, own))
                    for vector, own in zip(weights, values)
                )
                self.assertIs(is_wide_paper(wide, row, side, (choice, values, raised)), True)
                for other in choices[:12]:
                    value = (other, values, weights)
                    self.assertIs(
                        is_wide_paper(wide, row, side, value), is_paper_by_definition(wide, row, side, value)
                    )

    def test_bent_papers(self):
        for wide, row, _ in each(211, 60):
            for side in SIDES:
                paper = wide_paper(wide, row, side)
                for table in (1, 2):
                    for other in bent(paper[table]):
                        value = paper[:table] + (other,) + paper[table + 1:]
                        right = is_paper_by_definition(wide, row, side, value)
                        self.assertIs(is_wide_paper(wide, row, side, value), right)
                other_side = SIDES[1 - SIDES.index(side)]
                self.assertIs(
                    is_wide_paper(wide, row, other_side, paper), is_paper_by_definition(wide, row, other_side, paper)
                )

    def test_what_is_no_paper(self):
        choice, values, weights = ((0,),), (((-1, 3),),), (((0, 1),),)
        wrong = (
            (choice, values),
            (choice, values, weights, weights),
            [choice, values, weights],
            (((2,),), values, weights),
            (((False,),), values, weights),
            (((1,),), values, weights),
            (choice, values[0], weights),
            (choice, values, weights[0]),
            (choice, list(values), weights),
            (choice, values, ([(0, 1)],)),
            (choice, values * 2, weights),
            (choice, values, ()),
            (choice, (((-2, 6),),), weights),
            (choice, values, (((0, True),),)),
            (choice, values, (((0, 1), (0, 1)),)),
            (choice, (((1, 3),),), weights),
        )
        for value in wrong + OTHERS + (0, WIDE):
            self.assertIs(is_wide_paper(WIDE, ("u",), "least", value), False)
        self.assertIs(is_wide_paper(WIDE, ("u",), "least", (choice, values, (((-7, 2),),))), True)
        self.assertIs(is_wide_paper(WIDE, ("u",), "greatest", (((1,),), (((1, 3),),), weights)), True)


if __name__ == "__main__":
    unittest.main()
