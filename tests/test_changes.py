"""The promises of stage 3 about houses that come of other houses."""

import itertools
import unittest
from fractions import Fraction

from reference import SEE_GAMES, SWAP_GAMES, pair, some_houses
from samples import LONGEST, NOT_FRACTIONS, NOT_INTEGERS, NOT_NAMES, OTHERS, refused
from wonbyturns.base.houses import House
from wonbyturns.base.ratios import Ratio
from wonbyturns.errors import (
    InvalidFraction,
    InvalidGame,
    InvalidHouse,
    InvalidNumber,
    InvalidOperation,
    InvalidWord,
    TooMany,
    UnknownGame,
)

SWAP = House(SWAP_GAMES)
SEE = House(SEE_GAMES)
C, D = SWAP_GAMES["c"], SWAP_GAMES["d"]
ONE_STANDING = (((0, 0, (1, 1)),),)
NOT_WORDS = OTHERS + (0, "", "Cd", "abcdefghi", "a b", ("m",), Ratio(1))


class Changes(unittest.TestCase):
    def tearDown(self):
        # Whatever was asked, refused or not, has changed neither house.
        self.assertEqual(SWAP.games, {"c": C, "d": D})
        self.assertEqual(SEE.games, SEE_GAMES)


class Games(Changes):
    def test_a_game_more(self):
        self.assertEqual(SWAP.with_game("m", C), House({"c": C, "d": D, "m": C}))
        self.assertEqual(SWAP.with_game("a", D).names, ("a", "c", "d"))

    def test_another_game(self):
        self.assertEqual(SWAP.with_game("c", D), House({"c": D, "d": D}))

    def test_with_wrong_arguments(self):
        for name in NOT_WORDS:
            refused(self, InvalidWord, SWAP.with_game, name, None)
            refused(self, InvalidWord, SWAP.with_game, name, ONE_STANDING)
        for game in OTHERS + (0, SWAP, ((),), (C[0],)):
            refused(self, InvalidGame, SWAP.with_game, "m", game)
        refused(self, InvalidHouse, SWAP.with_game, "m", ONE_STANDING)
        refused(self, InvalidHouse, SWAP.with_game, "c", ONE_STANDING)

    def test_a_fifth_game(self):
        four = SWAP.with_game("a", C).with_game("b", C)
        refused(self, InvalidHouse, four.with_game, "e", C)
        self.assertEqual(four.with_game("a", D), House({"a": D, "b": C, "c": C, "d": D}))

    def test_the_only_game(self):
        self.assertEqual(SWAP.without("d").with_game("c", ONE_STANDING), House({"c": ONE_STANDING}))

    def test_without(self):
        self.assertEqual(SWAP.without("c"), House({"d": D}))
        self.assertEqual(SWAP.without("d", "d", "d"), House({"c": C}))
        self.assertEqual(SWAP.without(), SWAP)
        refused(self, InvalidHouse, SWAP.without, "c", "d")
        refused(self, InvalidHouse, SWAP.without, "d", "c", "d")

    def test_without_wrong_names(self):
        for name in NOT_NAMES:
            refused(self, UnknownGame, SWAP.without, name, asked=name)
            refused(self, UnknownGame, SWAP.without, "c", "d", name, None, asked=name)
            refused(self, UnknownGame, SWAP.without, "c", name, "x", asked=name)

    def test_renamed(self):
        self.assertEqual(SWAP.renamed({"c": "d", "d": "c"}), House({"c": D, "d": C}))
        self.assertEqual(SWAP.renamed({"d": "left", "c": "right"}).names, ("left", "right"))
        self.assertEqual(SWAP.renamed({"c": "c", "d": "d"}), SWAP)

    def test_wrong_new_names(self):
        wrong = ({}, {"c": "x"}, {"c": "x", "d": "x"}, {"c": "x", "e": "y"}, {"c": "x", "d": "y", "e": "z"}, {"c": "d"})
        for names in wrong + OTHERS + (0, SWAP, ("c", "d"), (("c", "x"), ("d", "y")), "cd", ["c", "d"]):
            refused(self, InvalidOperation, SWAP.renamed, names)
        for word in NOT_WORDS:
            refused(self, InvalidOperation, SWAP.renamed, {"c": "x", "d": word})

    def test_new_names_stay_as_they_are(self):
        names = {"d": "x", "c": "y"}
        SWAP.renamed(names)
        self.assertEqual(names, {"d": "x", "c": "y"})


class Standings(Changes):
    def test_reordered(self):
        for house in list(some_houses(31, 40)) + [SWAP, SEE]:
            for order in itertools.permutations(range(house.size)):
                other = house.reordered(order)
                self.assertEqual((other.names, other.size), (house.names, house.size))
                for name in house:
                    for new, old in enumerate(order):
                        moves = {(order[to], gain): chance for to, gain, chance in other[name][new]}
                        self.assertEqual(moves, {(to, gain): chance for to, gain, chance in house[name][old]})

    def test_not_its_own_inverse(self):
        house = House({"a": (((1, 10, (1, 1)),), ((2, 11, (1, 1)),), ((2, 12, (1, 1)),))})
        self.assertEqual(house.reordered((1, 2, 0)).lines, ("a 0 1 11 1", "a 1 1 12 1", "a 2 0 10 1"))

    def test_wrong_orders(self):
        wrong = ((), (0,), (0, 0), (1, 1), (0, 2), (0, -1), (0, 1, 1), (0, 1, 2), [1, 0], (1, False), (True, 0), "10")
        for order in wrong + OTHERS + (0, SWAP, {1: 1, 0: 0}, (1, None), (1, "0"), (1, [0]), (LONGEST, 0)):
            refused(self, InvalidOperation, SWAP.reordered, order)


class Gains(Changes):
    def test_paid(self):
        self.assertEqual(SWAP.paid("c", 98).lines, ("c 0 1 99 1", "c 1 0 97 1", "d 0 0 0 1", "d 1 0 0 1"))
        self.assertEqual(SWAP.paid("c", -98).gains_of("c"), (-99, -97))
        self.assertEqual(SWAP.paid("d", 99).paid("d", -99), SWAP)
        self.assertEqual(SWAP.paid("d", 0), SWAP)

    def test_wrong_amounts(self):
        for name in NOT_NAMES:
            refused(self, UnknownGame, SWAP.paid, name, None, asked=name)
        for amount in NOT_INTEGERS + (100, -100, LONGEST):
            refused(self, InvalidNumber, SWAP.paid, "c", amount, number=amount)
        refused(self, InvalidHouse, SWAP.paid, "c", 99)
        refused(self, InvalidHouse, SWAP.paid, "c", -99)
        refused(self, InvalidHouse, SWAP.paid("d", 99).paid, "d", 1)

    def test_turned(self):
        for house in list(some_houses(32, 40)) + [SWAP, SEE]:
            other = house.turned()
            self.assertEqual(other.turned(), house)
            for name in house:
                for one, moves in zip(other[name], house[name]):
                    self.assertEqual(sorted((to, -gain, chance) for to, gain, chance in moves), list(one))


class Blends(Changes):
    def test_blends(self):
        for house in some_houses(33, 60, games=(2, 3)):
            for share in ((0, 1), (1, 1), (1, 2), (2, 7)):
                part = Fraction(*share)
                other = house.blend("m", "a", "b", share)
                self.assertEqual(other.without("m"), house)
                for standing in range(house.size):
                    chances = {}
                    for name, by in (("a", part), ("b", 1 - part)):
                        for to, gain, chance in house[name][standing]:
                            chances[to, gain] = chances.get((to, gain), 0) + by * Fraction(*chance)
                    moves = [(to, gain, pair(chances[to, gain])) for to, gain in sorted(chances) if chances[to, gain]]
                    self.assertEqual(other["m"][standing], tuple(moves))

    def test_one_game_alone(self):
        self.assertEqual(SWAP.blend("m", "c", "d", (1, 1))["m"], C)
        self.assertEqual(SWAP.blend("m", "c", "d", (0, 1))["m"], D)
        self.assertEqual(SWAP.blend("m", "c", "c", (1, 3))["m"], C)

    def test_another_game_of_this_name(self):
        house = SWAP.blend("c", "c", "d", (1, 2))
        self.assertEqual(house.names, ("c", "d"))
        self.assertEqual(house["c"][0], ((0, 0, (1, 2)), (1, 1, (1, 2))))

    def test_wrong_arguments(self):
        for name in NOT_WORDS:
            refused(self, InvalidWord, SWAP.blend, name, None, None, None)
        for name in NOT_NAMES:
            refused(self, UnknownGame, SWAP.blend, "m", name, None, None, asked=name)
            refused(self, UnknownGame, SWAP.blend, "m", "c", name, None, asked=name)
        for share in NOT_FRACTIONS + ((-1, 2), (3, 2), (2, 1)):
            refused(self, InvalidFraction, SWAP.blend, "m", "c", "d", share)

    def test_a_fifth_game(self):
        four = SWAP.with_game("a", C).with_game("b", C)
        refused(self, InvalidHouse, four.blend, "m", "c", "d", (1, 2))
        self.assertEqual(four.blend("a", "c", "c", (1, 2)), four)

    def test_more_than_twelve_moves(self):
        one = (tuple((0, gain, (1, 6)) for gain in range(6)),)
        other = (tuple((0, gain, (1, 6)) for gain in range(6, 12)),)
        more = (tuple((0, gain, (1, 7)) for gain in range(6, 13)),)
        house = House({"a": one, "b": other, "c": more})
        self.assertEqual(len(house.blend("m", "a", "b", (1, 2))["m"][0]), 12)
        refused(self, InvalidHouse, house.blend, "m", "a", "c", (1, 2))
        self.assertEqual(house.blend("m", "a", "c", (0, 1))["m"], more)

    def test_chances_that_are_too_long(self):
        half = House({"a": (((0, 0, (1, LONGEST)), (0, 1, (LONGEST - 1, LONGEST))),), "b": ONE_STANDING})
        refused(self, TooMany, half.blend, "m", "a", "b", (1, LONGEST), limit=300)
        self.assertEqual(half.blend("m", "a", "a", (1, LONGEST))["m"], half["a"])


class Both(Changes):
    def test_both(self):
        self.assertEqual(SWAP | SEE, House({"c": C, "d": D, "e": SEE["e"], "f": SEE["f"]}))
        self.assertEqual(SEE | SWAP, SWAP | SEE)
        self.assertEqual(SWAP | SWAP.without("c"), SWAP)

    def test_other_operands(self):
        for other in OTHERS + (0, SWAP_GAMES, "c", Ratio(1), House({"e": ONE_STANDING})):
            refused(self, InvalidOperation, SWAP.__or__, other)
        with self.assertRaises(InvalidOperation):
            SWAP | SWAP_GAMES
        refused(self, InvalidOperation, SWAP.__or__, SWAP.turned())
        refused(self, InvalidOperation, SWAP.__or__, SEE.renamed({"e": "d", "f": "g"}))

    def test_more_than_four_games(self):
        more = SEE.with_game("g", C)
        refused(self, InvalidHouse, SWAP.__or__, more)
        refused(self, InvalidOperation, SWAP.__or__, more.with_game("c", D))


if __name__ == "__main__":
    unittest.main()
