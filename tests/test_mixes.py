"""The promises [0.13] and [0.20] of lots, and stage 11."""

import random
import unittest
from fractions import Fraction

from reference import (
    PAR_GAMES,
    SEE_GAMES,
    SWAP_GAMES,
    chain_runs,
    integers_in,
    moves_table,
    numbers,
    pair,
    pairs,
    some_game,
    some_houses,
    three_ways,
)
from samples import LONGEST, NOT_FRACTIONS, NOT_NAMES, OTHERS, TOO_LONG, refused
from wonbyturns.base.houses import House
from wonbyturns.base.ratios import Ratio
from wonbyturns.errors import InvalidFraction, InvalidHouse, InvalidLot, InvalidOperation, NoRow, TooMany, UnknownGame
from wonbyturns.lots.mixes import (
    Mix,
    are_mix_signs,
    is_lot,
    is_mix_paper,
    is_quotient,
    lot_runs,
    mix_paper,
    mix_signs,
    mixed_game,
    quotient,
    roots_between,
    value_at,
    winning_mix,
)
from wonbyturns.lots.polynomials import times
from wonbyturns.play.mixing import is_mixing
from wonbyturns.play.rounds import long_runs

SWAP = House(SWAP_GAMES)
SEE = House(SEE_GAMES)
PAR = House(PAR_GAMES)
UPS = House({"u": (((0, -1, (2, 3)), (0, 1, (1, 3))),), "w": (((0, -1, (1, 3)), (0, 1, (2, 3))),)})
HALF = {"u": (1, 2), "w": (1, 2)}
NOT_HOUSES = OTHERS + (0, SWAP_GAMES, Ratio(1))
NOT_CHANCES = NOT_FRACTIONS + ((-1, 2), (3, 2), (2, 1))
NOT_LOTS = OTHERS + (
    0,
    {"u": (1, 1)},
    {"u": (1, 2), "w": (1, 2), "x": (0, 1)},
    {"u": (1, 2), "x": (1, 2)},
    {"u": (1, 2), "w": (1, 3)},
    {"u": (3, 2), "w": (-1, 2)},
    {"u": (1, 1), "w": (1, 1)},
    {"u": (0, 1), "w": (0, 1)},
    {"u": (1, True), "w": (0, 1)},
    {"u": (2, 2), "w": (0, 1)},
    {"u": 1, "w": 0},
    {"u": (1, 2), "w": [1, 2]},
    [("u", (1, 2)), ("w", (1, 2))],
    (("u", (1, 2)), ("w", (1, 2))),
)


def all_chances(bottom):
    """The fractions from 0 to 1 with a bottom, as Fractions."""
    return [Fraction(top, bottom) for top in range(bottom + 1)]


def run_at(house, first, second, p):
    """The long run by lot of two games, by the chain of the mixed game."""
    table, gains = moves_table(house[first])
    others, more = moves_table(house[second])
    both = [[p * one + (1 - p) * by for one, by in zip(row, other)] for row, other in zip(table, others)]
    runs = chain_runs(both, [p * one + (1 - p) * by for one, by in zip(gains, more)])
    assert len(set(runs)) == 1
    return runs[0]


def each(seed, many=120, sizes=(1, 2, 3, 4)):
    """Houses of which the games a and b mix."""
    houses = list(some_houses(seed, many, sizes=sizes, games=(2, 3)))
    return [house for house in houses if is_mixing(house.without(*[one for one in house if one not in "ab"]))]


def crossing(*roots):
    """A house of one standing in which the lots of u and w cross 0 at a fraction."""
    root = Fraction(roots[0])
    low = (((0, 0, pair(1 - root)), (0, 99, pair(root))),)
    return House({"u": (((0, -99, pair(1 - root)), (0, 0, pair(root))),), "w": low})


def refused_by_both(case, house):
    """By no lot of the games a and b a house wins."""
    for names in (("a", "b"), ("b", "a")):
        with case.assertRaises(NoRow) as caught:
            winning_mix(house, *names)
        case.assertEqual(caught.exception.wanted, names)


class Examples(unittest.TestCase):
    def test_of_lots(self):
        self.assertEqual(
            [
                mixed_game(UPS, HALF),
                lot_runs(UPS, HALF),
                is_quotient(UPS, "u", "w", ((1, -2), (3,))),
                mix_signs(UPS, "u", "w")[1],
                value_at((1, -2), (1, 4)),
                roots_between((1, -2), (0, 1), (1, 1)),
            ],
            [(((0, -1, (1, 2)), (0, 1, (1, 2))),), ((0, 1),), True, (1, -1), (1, 2), 1],
        )

    def test_of_mixes(self):
        self.assertEqual(
            [
                mix_signs(PAR, "a", "b")[1],
                mix_signs(SEE, "e", "f"),
                str(Mix(UPS, "u", "w")),
                Mix(UPS, "w", "u").at((1, 1)),
                mix_paper(SEE, "e", "f")[0],
            ],
            [(-1, 1, -1), ((), (0,)), "u and w: 1 roots, wins", (1, 3), "none"],
        )


class Lots(unittest.TestCase):
    def test_what_is_a_lot(self):
        for lot in (HALF, {"w": (1, 3), "u": (2, 3)}, {"u": (1, 1), "w": (0, 1)}, {"u": (0, 1), "w": (1, 1)}):
            self.assertIs(is_lot(UPS, lot), True)
        for value in NOT_LOTS:
            self.assertIs(is_lot(UPS, value), False)
            for call in (mixed_game, lot_runs):
                refused(self, InvalidLot, call, UPS, value)
        for house in NOT_HOUSES:
            for call in (is_lot, mixed_game, lot_runs):
                refused(self, InvalidHouse, call, house, None)
        self.assertIs(is_lot(three_ways(), {"a": (1, 1)}), True)

    def test_mixed_games(self):
        source = random.Random(131)
        for house in some_houses(131, 100, games=(1, 2, 3, 4)):
            parts = [source.randint(0, 3) for _ in house]
            parts[-1] += not any(parts)
            chances = [Fraction(part, sum(parts)) for part in parts]
            lot = dict(zip(house.names, pairs(chances)))
            game = []
            for standing in range(house.size):
                found = {}
                for name, part in zip(house, chances):
                    for to, gain, by in house[name][standing]:
                        found[to, gain] = found.get((to, gain), 0) + part * Fraction(*by)
                game.append(tuple((to, gain, pair(by)) for (to, gain), by in sorted(found.items()) if by))
            self.assertEqual(mixed_game(house, lot), tuple(game))
            self.assertEqual(lot_runs(house, lot), pairs(chain_runs(*moves_table(game))))

    def test_one_game_alone(self):
        for house in some_houses(132, 40, games=(2, 3)):
            for name in house:
                lot = {one: (int(one == name), 1) for one in house}
                self.assertEqual(mixed_game(house, lot), house[name])
                self.assertEqual(lot_runs(house, lot), long_runs(house, (name,)))

    def test_forty_eight_moves(self):
        games = {
            name: (tuple((0, gain, (1, 12)) for gain in range(12 * at, 12 * at + 12)),)
            for at, name in enumerate("abcd")
        }
        moves = mixed_game(House(games), {name: (1, 4) for name in "abcd"})[0]
        self.assertEqual(moves, tuple((0, gain, (1, 48)) for gain in range(48)))

    def test_long_numbers(self):
        tiny = Fraction(1, LONGEST)
        house = House({"a": (((0, 0, pair(tiny)), (0, 1, pair(1 - tiny))),), "b": (((0, 0, (1, 1)),),)})
        lot = {"a": (1, 10 ** 200), "b": (10 ** 200 - 1, 10 ** 200)}
        refused(self, TooMany, mixed_game, house, lot, limit=300)
        refused(self, TooMany, lot_runs, house, lot, limit=300)
        self.assertEqual(lot_runs(SEE, {"e": pair(tiny), "f": pair(1 - tiny)}), ((0, 1), (0, 1)))


class Quotients(unittest.TestCase):
    def test_quotients(self):
        found = each(133) + each(134, 20, (5, 6, 8))
        self.assertGreater(len(found), 60)
        for house in found:
            upper, lower = quotient(house, "a", "b")
            self.assertIs(is_quotient(house, "a", "b", (upper, lower)), True)
            self.assertLess(max(map(abs, integers_in((upper, lower)))), 10 ** 60)
            for p in all_chances(7):
                bottom = Fraction(*value_at(lower, pair(p)))
                self.assertGreater(bottom, 0)
                self.assertEqual(Fraction(*value_at(upper, pair(p))) / bottom, run_at(house, "a", "b", p))

    def test_both_orders(self):
        for house in each(135, 30):
            self.assertEqual(Mix(house, "a", "b").at((1, 3)), Mix(house, "b", "a").at((2, 3)))

    def test_other_quotients(self):
        for house in each(136, 60):
            upper, lower = quotient(house, "a", "b")
            for factor in ((5,), (1, 1), (1, -1, 1), (2, -1), (3, 0, -2)):
                value = (times(upper, factor), times(lower, factor))
                self.assertIs(is_quotient(house, "a", "b", value), True)
            for factor in ((-1,), (0, 1), (1, -1), (-1, 2), (1, -4, 4), (-2, 1)):
                value = (times(upper, factor), times(lower, factor))
                self.assertIs(is_quotient(house, "a", "b", value), False)

    def test_what_is_no_quotient(self):
        self.assertIs(is_quotient(UPS, "u", "w", ((1, -2), (3,))), True)
        wrong = (
            ((), ()),
            ((), (1,)),
            ((1, -2), ()),
            ((1, -2), (3, 0)),
            ((1, -2, 0), (3,)),
            ((1, -2), (4,)),
            ((1, -3), (3,)),
            ((-1, 2), (-3,)),
            ((True, -2), (3,)),
            ((1, -2),),
            ((1, -2), (3,), ()),
            [(1, -2), (3,)],
            ([1, -2], (3,)),
            ((1, -2), [3]),
            ((TOO_LONG, -2 * TOO_LONG), (3 * TOO_LONG,)),
            (times((1, -2), (1,) + (0,) * 12 + (1,)), times((3,), (1,) + (0,) * 12 + (1,))),
        )
        for value in wrong + OTHERS + (0, UPS):
            self.assertIs(is_quotient(UPS, "u", "w", value), False)
        self.assertIs(is_quotient(SEE, "e", "f", ((), (1,))), True)
        self.assertIs(is_quotient(SEE, "e", "f", ((), (2, -1))), True)
        self.assertIs(is_quotient(SEE, "e", "f", ((), (1, -2))), False)
        self.assertIs(is_quotient(SEE, "e", "f", ((), (1, -1))), False)

    def test_bent_quotients(self):
        for house in each(137, 60):
            upper, lower = quotient(house, "a", "b")
            for at in range(len(upper)):
                other = upper[:at] + (upper[at] + 1,) + upper[at + 1:]
                self.assertIs(is_quotient(house, "a", "b", (other, lower)), False)
            if upper:
                for at in range(len(lower)):
                    other = lower[:at] + (lower[at] + 1,) + lower[at + 1:]
                    self.assertIs(is_quotient(house, "a", "b", (upper, other)), False)

    def test_games_that_do_not_mix(self):
        for call in (quotient, mix_signs, winning_mix, mix_paper, Mix):
            refused(self, InvalidOperation, call, SWAP, "c", "d")
        for call in (is_quotient, is_mix_paper, are_mix_signs):
            refused(self, InvalidOperation, call, SWAP, "c", "d", None)
        # That another game of the house does not mix with the two plays no part.
        more = SEE.with_game("c", SWAP_GAMES["c"])
        self.assertFalse(is_mixing(more.without("e")))
        self.assertEqual(mix_signs(more, "e", "f"), ((), (0,)))
        refused(self, InvalidOperation, quotient, more.with_game("d", SWAP_GAMES["d"]), "c", "d")

    def test_wrong_arguments(self):
        plain = (quotient, mix_signs, winning_mix, mix_paper, Mix)
        judging = (is_quotient, is_mix_paper, are_mix_signs)
        for call, rest in [(one, ()) for one in plain] + [(one, (None,)) for one in judging]:
            for house in NOT_HOUSES:
                refused(self, InvalidHouse, call, house, None, None, *rest)
            for name in NOT_NAMES:
                refused(self, UnknownGame, call, SWAP, name, None, *rest, asked=name)
                refused(self, UnknownGame, call, SWAP, "c", name, *rest, asked=name)
            refused(self, InvalidOperation, call, UPS, "u", "u", *rest)

    def test_long_numbers(self):
        tiny, small = Fraction(1, LONGEST), Fraction(1, 10 ** 299)
        game = lambda one, other: (
            ((0, 1, pair(1 - one)), (1, 1, pair(one))),
            ((0, -1, pair(other)), (1, -1, pair(1 - other))),
        )
        house = House({"a": game(tiny, small), "b": game(small, Fraction(1, 7))})
        refused(self, TooMany, quotient, house, "a", "b", limit=300)
        refused(self, TooMany, Mix(house, "a", "b").at, (1, 3), limit=300)


class Signs(unittest.TestCase):
    def test_signs(self):
        many = {}
        for house in each(138, 200) + each(139, 30, (5, 6, 8)) + [PAR]:
            roots, signs = mix_signs(house, "a", "b")
            self.assertIs(are_mix_signs(house, "a", "b", (roots, signs)), True)
            self.assertLess(max(map(abs, integers_in((roots, signs)))), 10 ** 60)
            many[len(roots)] = True
            runs = {p: run_at(house, "a", "b", p) for p in all_chances(24)}
            if signs == (0,):
                self.assertEqual((roots, set(runs.values())), ((), {0}))
                continue
            for p, run in runs.items():
                at = [index for index, (low, high) in enumerate(roots) if Fraction(*low) <= p <= Fraction(*high)]
                behind = len([1 for _, high in roots if Fraction(*high) < p])
                if not at and 0 < p < 1:
                    self.assertGreater(run * signs[behind], 0)
            self.check_stretches(house, roots)
        self.assertLessEqual({0, 1, 2}, set(many))

    def check_stretches(self, house, roots):
        """Each stretch is where the run is 0, or the run has unlike signs, or it touches 0 between."""
        last = 0
        for low, high in roots:
            low, high = Fraction(*low), Fraction(*high)
            self.assertTrue(last < low <= high < 1)
            last = high
            ends = [run_at(house, "a", "b", end) for end in (low, high)]
            self.assertEqual([end == 0 for end in ends], [low == high] * 2)

    def test_roots_that_are_fractions(self):
        for root in (Fraction(1, 2), Fraction(1, 3), Fraction(98, 99), Fraction(123, 1000)):
            house = crossing(root)
            (stretch,), signs = mix_signs(house, "u", "w")
            self.assertEqual((stretch, signs), ((pair(root),) * 2, (1, -1)))
            for low, high in (
                (root, root),
                (root / 2, (root + 1) / 2),
                (root - Fraction(1, 9999), root + Fraction(1, 9999)),
                (Fraction(1, LONGEST), Fraction(LONGEST - 1, LONGEST)),
            ):
                self.assertIs(are_mix_signs(house, "u", "w", (((pair(low), pair(high)),), (1, -1))), True)
            for low, high in (
                (root, (root + 1) / 2),
                (root / 2, root),
                (0, (root + 1) / 2),
                (root / 2, 1),
                (root / 3, root / 2),
                ((root + 1) / 2, root / 2),
                (root / 2, root / 2),
                (-root, (root + 1) / 2),
            ):
                self.assertIs(are_mix_signs(house, "u", "w", (((pair(low), pair(high)),), (1, -1))), False)

    def test_a_root_with_many_digits(self):
        root = Fraction(10 ** 99 + 7, 3 * 10 ** 99 + 1)
        (stretch,), signs = mix_signs(crossing(root), "u", "w")
        self.assertLess(max(integers_in(stretch)), 10 ** 60)
        self.assertTrue(Fraction(*stretch[0]) < root < Fraction(*stretch[1]))
        self.assertEqual(signs, (1, -1))
        self.assertIs(are_mix_signs(crossing(root), "u", "w", (((pair(root),) * 2,), signs)), True)

    def test_a_root_near_an_end(self):
        for root in (Fraction(1, 10 ** 90), 1 - Fraction(1, 10 ** 90)):
            roots, signs = mix_signs(crossing(root), "u", "w")
            self.assertEqual((len(roots), signs), (1, (1, -1)))
            self.assertIs(are_mix_signs(crossing(root), "u", "w", (roots, signs)), True)

    def test_roots_that_are_several_times_roots(self):
        # The draw itself tells the standing behind it: the run is the square of 1 - 2 p.
        house = House({
            "a": (((1, 0, (1, 1)),), ((1, 1, (1, 1)),)),
            "b": (((0, 1, (1, 1)),), ((0, -2, (1, 1)),)),
        })
        self.assertEqual([run_at(house, "a", "b", p) for p in all_chances(2)], [1, 0, 1])
        self.assertEqual(mix_signs(house, "a", "b"), ((((1, 2), (1, 2)),), (1, 1)))
        self.assertEqual(str(Mix(house, "a", "b")), "a and b: 1 roots, wins")
        turned = house.turned()
        self.assertEqual(mix_signs(turned, "a", "b"), ((((1, 2), (1, 2)),), (-1, -1)))
        self.assertEqual(str(Mix(turned, "a", "b")), "a and b: 1 roots, never wins")
        self.assertEqual(mix_paper(turned, "a", "b")[0], "none")
        self.assertIs(are_mix_signs(house, "a", "b", ((), (1,))), False)
        self.assertIs(are_mix_signs(house, "a", "b", ((((1, 3), (2, 3)),), (1, 1))), True)
        self.assertIs(are_mix_signs(house, "a", "b", ((((1, 3), (2, 3)),), (1, -1))), False)

    def test_roots_at_0_and_1_are_left_out(self):
        house = House({
            "a": (((1, 0, (1, 1)),), ((1, 0, (1, 1)),)),
            "b": (((0, 0, (1, 1)),), ((0, 4, (1, 1)),)),
        })
        self.assertEqual([run_at(house, "a", "b", p) for p in all_chances(2)], [0, 1, 0])
        self.assertEqual(mix_signs(house, "a", "b"), ((), (1,)))
        self.assertEqual(mix_signs(house.turned(), "a", "b"), ((), (-1,)))
        self.assertEqual(winning_mix(house, "a", "b"), (1, 2))
        refused_by_both(self, house.turned())
        for value in (((), (0,)), ((), (-1,)), ((), ()), ((), (1, 1)), ((((0, 1), (0, 1)),), (1, 1))):
            self.assertIs(are_mix_signs(house, "a", "b", value), False)

    def test_neighbouring_stretches(self):
        roots, signs = mix_signs(PAR, "a", "b")
        (one, other) = roots
        cut = Fraction(*one[1]), Fraction(*other[0])
        self.assertLess(*cut)
        middle = pair(sum(cut) / 2)
        right = (((one[0], middle), (other[0], other[1])), signs)
        touching = (((one[0], middle), (middle, other[1])), signs)
        self.assertIs(are_mix_signs(PAR, "a", "b", right), Fraction(*middle) < Fraction(*other[0]))
        self.assertIs(are_mix_signs(PAR, "a", "b", touching), False)
        for value in (
            (roots, (-1, 1)),
            (roots, (-1, 1, -1, 1)),
            (roots, (1, -1, 1)),
            (roots, (-1, True, -1)),
            (roots, [-1, 1, -1]),
            (list(roots), signs),
            (roots[:1], signs[:2]),
            (roots[1:], signs[1:]),
            (roots[::-1], signs),
            ((one, one), signs),
            (((one[0], other[1]),), (-1, -1)),
            ((one[::-1], other), signs),
            ((list(one), other), signs),
            ((one[:1], other), signs),
            (roots,),
            (roots, signs, signs),
            [roots, signs],
        ):
            self.assertIs(are_mix_signs(PAR, "a", "b", value), False)

    def test_what_are_no_signs(self):
        for house, first, second in ((SEE, "e", "f"), (UPS, "u", "w")):
            wrong = (((), ()), ((), (1,)), ((), (False,)), ([], (0,)), ((), [0]), ((), (0, 0)), ((), 0), ((),))
            for value in wrong + OTHERS + (0, UPS):
                self.assertIs(are_mix_signs(house, first, second, value), False)
        self.assertIs(are_mix_signs(SEE, "e", "f", ((), (0,))), True)
        self.assertIs(are_mix_signs(UPS, "u", "w", ((), (0,))), False)


class Winning(unittest.TestCase):
    def test_winning_mixes(self):
        never = 0
        for house in each(140, 200) + [PAR]:
            runs = [run_at(house, "a", "b", p) for p in all_chances(24)]
            paper = mix_paper(house, "a", "b")
            self.assertIs(is_mix_paper(house, "a", "b", paper), True)
            if paper[0] == "none":
                never += 1
                refused_by_both(self, house)
                self.assertLessEqual(max(runs), 0)
                self.assertEqual(paper[1:], quotient(house, "a", "b"))
                self.assertNotIn(1, mix_signs(house, "a", "b")[1])
            else:
                p = winning_mix(house, "a", "b")
                for found in (p, paper[1]):
                    self.assertTrue(0 <= Fraction(*found) <= 1)
                    self.assertGreater(run_at(house, "a", "b", Fraction(*found)), 0)
                    self.assertLess(max(found), 10 ** 60)
                self.assertIn(1, mix_signs(house, "a", "b")[1])
        self.assertGreater(never, 20)

    def test_that_win_at_one_end_alone(self):
        self.assertEqual(winning_mix(UPS, "u", "w"), (0, 1))
        self.assertEqual(winning_mix(UPS, "w", "u"), (1, 1))

    def test_other_papers(self):
        for p in all_chances(30):
            right = run_at(PAR, "a", "b", p) > 0
            self.assertIs(is_mix_paper(PAR, "a", "b", ("wins", pair(p))), right)
        upper, lower = quotient(SEE.paid("e", -1), "e", "f")
        lost = SEE.paid("e", -1)
        for factor in ((2,), (1, 1), (3, -2)):
            paper = ("none", times(upper, factor), times(lower, factor))
            self.assertIs(is_mix_paper(lost, "e", "f", paper), True)
        for wrong in (
            ("none", times(upper, (-1,)), times(lower, (-1,))),
            ("none", lower, lower),
            ("none", (), lower),
            ("none", upper),
            ("none", upper, lower, lower),
            ("none", (upper, lower)),
            ["none", upper, lower],
            ("wins", upper, lower),
            ("wins", (1, 2)),
            ("wins", (0, 1)),
        ):
            self.assertIs(is_mix_paper(lost, "e", "f", wrong), False)
        self.assertIs(is_mix_paper(SEE, "e", "f", ("none", (), (1,))), True)

    def test_what_is_no_paper(self):
        wrong = (
            ("none",) + quotient(UPS, "u", "w"),
            ("wins",),
            ("wins", (2, 1)),
            ("wins", (-1, 1)),
            ("wins", (1, 2)),
            ("wins", (0, True)),
            ("wins", (0, 2)),
            ("wins", 0),
            ("none", (0, 1)),
            ["wins", (0, 1)],
            ("Wins", (0, 1)),
            (None, (0, 1)),
        )
        for value in wrong + OTHERS + (0, UPS):
            self.assertIs(is_mix_paper(UPS, "u", "w", value), False)
        self.assertIs(is_mix_paper(UPS, "u", "w", ("wins", (0, 1))), True)
        self.assertIs(is_mix_paper(UPS, "u", "w", ("wins", (1, LONGEST))), True)


class Mixes(unittest.TestCase):
    def test_what_it_tells(self):
        for house in each(141, 60) + [PAR]:
            mix = Mix(house, "b", "a")
            self.assertEqual((mix.house, mix.names), (house, ("b", "a")))
            self.assertEqual(len(mix), len(mix.signs[0]))
            self.assertIs(are_mix_signs(house, "b", "a", mix.signs), True)
            for p in all_chances(9):
                run = run_at(house, "b", "a", p)
                self.assertEqual(mix.at(pair(p)), pair(run))
                self.assertIs(mix.wins(pair(p)), run > 0)
                self.assertEqual(mix.turned().at(pair(1 - p)), pair(run))
                self.assertEqual(list(mix.lot(pair(p)).items()), [("a", pair(1 - p)), ("b", pair(p))])
            word = "wins" if mix_paper(house, "b", "a")[0] == "wins" else "never wins"
            self.assertEqual(str(mix), f"b and a: {len(mix)} roots, {word}")

    def test_its_lots(self):
        mix = Mix(PAR, "a", "b")
        self.assertEqual(lot_runs(PAR, mix.lot((1, 4))), (mix.at((1, 4)),) * 3)
        mix.lot((1, 4))["a"] = None
        self.assertEqual(mix.lot((1, 4)), {"a": (1, 4), "b": (3, 4)})
        self.assertEqual(mix.lot((1, LONGEST)), {"a": (1, LONGEST), "b": (LONGEST - 1, LONGEST)})

    def test_wrong_chances(self):
        mix = Mix(PAR, "a", "b")
        for p in NOT_CHANCES:
            for call in (mix.at, mix.wins, mix.lot):
                refused(self, InvalidFraction, call, p)
        refused(self, TooMany, mix.at, (1, LONGEST), limit=300)
        self.assertIs(mix.wins((1, LONGEST)), False)

    def test_equal_ones(self):
        mix = Mix(UPS, "u", "w")
        self.assertTrue(mix == Mix(UPS, "u", "w"))
        self.assertFalse(mix != Mix(UPS, "u", "w"))
        self.assertEqual(mix.turned().turned(), mix)
        more = UPS.with_game("x", UPS["u"])
        for value in OTHERS + (0, UPS, ("u", "w"), mix.turned(), Mix(more, "u", "w"), mix.signs):
            self.assertFalse(mix == value)
            self.assertTrue(mix != value)
        with self.assertRaises(TypeError):
            iter(mix)

    def test_eight_standings(self):
        source = random.Random(142)
        house = House({name: some_game(source, 8, most_moves=9, sparse=False) for name in "ab"})
        mix = Mix(house, "a", "b")
        for p in all_chances(3):
            self.assertEqual(mix.at(pair(p)), pair(run_at(house, "a", "b", p)))

    def test_numbers_of_the_runs(self):
        for house in each(143, 20):
            self.assertEqual(numbers([Mix(house, "a", "b").at((1, 1))] * house.size), numbers(long_runs(house, ("a",))))


if __name__ == "__main__":
    unittest.main()
