"""The promises [0.8] and stage 3: games, moves, lines, and what a house tells."""

import unittest
from fractions import Fraction

from reference import PAR_GAMES, SEE_GAMES, SWAP_GAMES, pair, some_houses, three_ways
from samples import LONGEST, NOT_FRACTIONS, NOT_INTEGERS, NOT_NAMES, NOT_STANDINGS, OTHERS, TOO_LONG, refused
from wonbyturns.base import houses
from wonbyturns.base.houses import House, is_game, merged_moves
from wonbyturns.base.ratios import Ratio
from wonbyturns.errors import InvalidGame, InvalidHouse, InvalidNumber, ParseError, TooMany, UnknownGame

SWAP = House(SWAP_GAMES)
SEE = House(SEE_GAMES)

STAY = ((0, 0, (1, 1)),)


def equal_moves(many, to=0):
    """So many moves to a standing with the same chance."""
    return tuple((to, gain, (1, many)) for gain in range(many))


def circle(size, gain=0):
    """A game that leads from each of so many standings to the next one."""
    return tuple((((one + 1) % size, gain, (1, 1)),) for one in range(size))


class Examples(unittest.TestCase):
    def test_of_the_document(self):
        self.assertEqual(
            [str(SWAP), SWAP.lines, SEE.gain("e", 0), SEE.chance("e", 0, 1), SWAP.near("c", 0), SEE.seen],
            ["2 games, 2 standings", ("c 0 1 1 1", "c 1 0 -1 1", "d 0 0 0 1", "d 1 0 0 1"), (1, 1), (1, 2), (1,), (-1, 1)],
        )

    def test_of_changes(self):
        blend = SWAP.blend("m", "c", "d", (1, 3))["m"]
        self.assertEqual(
            [blend, SEE.turned().gain("e", 0), SEE.paid("e", 2).gains_of("e"), SWAP.reordered((1, 0)).lines[:2]],
            [
                (((0, 0, (2, 3)), (1, 1, (1, 3))), ((0, -1, (1, 3)), (0, 0, (2, 3)))),
                (-1, 1),
                (1, 3),
                ("c 0 1 -1 1", "c 1 0 1 1"),
            ],
        )

    def test_constants(self):
        limits = (houses.MAX_GAMES, houses.MAX_STANDINGS, houses.MAX_MOVES, houses.MAX_GAIN)
        self.assertEqual(limits, (4, 8, 12, 99))


class Games(unittest.TestCase):
    def test_games(self):
        for games in (SWAP_GAMES, SEE_GAMES, PAR_GAMES):
            for name in games:
                self.assertIs(is_game(games[name]), True)

    def test_numbers_of_standings(self):
        for size in range(1, 9):
            self.assertIs(is_game(circle(size)), True)
        self.assertIs(is_game(()), False)
        self.assertIs(is_game(circle(9)), False)

    def test_numbers_of_moves(self):
        for many in range(1, 13):
            self.assertIs(is_game((equal_moves(many),)), True)
        self.assertIs(is_game((equal_moves(13),)), False)
        self.assertIs(is_game(((),)), False)
        self.assertIs(is_game((STAY, ())), False)

    def test_gains(self):
        for gain in (-99, -1, 0, 1, 99):
            self.assertIs(is_game((((0, gain, (1, 1)),),)), True)
        for gain in NOT_INTEGERS + (-100, 100, LONGEST, (0, 1)):
            self.assertIs(is_game((((0, gain, (1, 1)),),)), False, repr(gain)[:80])

    def test_standings_behind(self):
        self.assertIs(is_game((((1, 0, (1, 1)),), STAY)), True)
        for to in NOT_STANDINGS:
            self.assertIs(is_game((((to, 0, (1, 1)),), STAY)), False, repr(to)[:80])
        self.assertIs(is_game((((1, 0, (1, 1)),),)), False)

    def test_chances(self):
        self.assertIs(is_game((((0, 0, (1, LONGEST)), (0, 1, (LONGEST - 1, LONGEST))),)), True)
        for chance in NOT_FRACTIONS + ((0, 1), (-1, 1), (2, 1), (3, 2)):
            self.assertIs(is_game((((0, 0, chance),),)), False, repr(chance)[:80])
            self.assertIs(is_game((((0, 0, chance), (0, 1, (1, 2))),)), False, repr(chance)[:80])

    def test_chances_that_do_not_sum_to_1(self):
        half, third = (1, 2), (1, 3)
        self.assertIs(is_game((((0, 0, half),),)), False)
        self.assertIs(is_game((((0, 0, half), (0, 1, third)),)), False)
        self.assertIs(is_game((((0, 0, half), (0, 1, half), (0, 2, third)),)), False)
        self.assertIs(is_game((((0, 0, half), (0, 1, (LONGEST - 1, 2 * LONGEST))),)), False)
        self.assertIs(is_game((((0, 0, (3, 2)), (0, 1, (-1, 2))),)), False)
        self.assertIs(is_game((((0, 0, half), (0, 1, half), (0, 2, (0, 1))),)), False)

    def test_moves_out_of_order(self):
        half = (1, 2)
        self.assertIs(is_game((((0, 0, half), (0, 1, half)),)), True)
        self.assertIs(is_game((((0, 1, half), (0, 0, half)),)), False)
        self.assertIs(is_game((((1, 0, half), (0, 1, half)), STAY)), False)
        self.assertIs(is_game((((0, 5, half), (1, 0, half)), STAY)), True)

    def test_two_moves_with_the_same_standing_and_gain(self):
        self.assertIs(is_game((((0, 1, (1, 3)), (0, 1, (2, 3))),)), False)
        self.assertIs(is_game((((0, 1, (1, 2)), (0, 1, (1, 2))),)), False)
        self.assertIs(is_game((((0, 0, (1, 3)), (0, 1, (1, 3)), (0, 1, (1, 3))),)), False)

    def test_other_kinds(self):
        for value in OTHERS + (0, Ratio(1), SWAP, STAY, [STAY], ([(0, 0, (1, 1))],), (([0, 0, (1, 1)],),)):
            self.assertIs(is_game(value), False, repr(value)[:80])
        for wrong in OTHERS + (0, (0, 0), (0, 0, (1, 1), 0), {0: 1}):
            self.assertIs(is_game(((wrong,),)), False, repr(wrong)[:80])
            self.assertIs(is_game((STAY, wrong)), False, repr(wrong)[:80])


class Merging(unittest.TestCase):
    def test_moves_that_are_alike(self):
        moves = ((7, 1, (1, 4)), (0, 2, (1, 8)), (7, 1, (1, 2)), (0, -2, (1, 8)))
        self.assertEqual(merged_moves(moves), ((0, -2, (1, 8)), (0, 2, (1, 8)), (7, 1, (3, 4))))

    def test_a_hundred_moves(self):
        moves = tuple((one % 3, one % 2, (1, 100)) for one in range(100))
        merged = merged_moves(moves)
        self.assertEqual([move[:2] for move in merged], [(0, 0), (0, 1), (1, 0), (1, 1), (2, 0), (2, 1)])
        self.assertEqual([move[2] for move in merged], [(17, 100), (17, 100), (4, 25), (17, 100), (17, 100), (4, 25)])
        more = tuple((0, 0, (1, 101)) for one in range(101))
        refused(self, InvalidGame, merged_moves, more)

    def test_twelve_moves_and_more(self):
        self.assertEqual(merged_moves(equal_moves(12)[::-1]), equal_moves(12))
        refused(self, InvalidGame, merged_moves, equal_moves(13))
        self.assertEqual(len(merged_moves(equal_moves(12, 7)[:11] + ((0, 0, (1, 24)), (0, 0, (1, 24))))), 12)

    def test_one_move(self):
        self.assertEqual(merged_moves(((7, -99, (1, 1)),)), ((7, -99, (1, 1)),))

    def test_wrong_moves(self):
        for value in OTHERS + (0, SWAP, STAY[0], list(STAY), ((0, 0, (1, 2)),), ((8, 0, (1, 1)),), ((-1, 0, (1, 1)),)):
            refused(self, InvalidGame, merged_moves, value)
        for gain in NOT_INTEGERS + (100, -100):
            refused(self, InvalidGame, merged_moves, ((0, gain, (1, 1)),))
        for chance in NOT_FRACTIONS + ((0, 1), (-1, 1), (2, 1)):
            refused(self, InvalidGame, merged_moves, ((0, 0, chance), (0, 0, (1, 2))))
        for to in NOT_INTEGERS + (8, -1, LONGEST):
            refused(self, InvalidGame, merged_moves, ((to, 0, (1, 1)),))

    def test_a_sum_that_is_too_long(self):
        parts = (Fraction(1, 10 ** 299), Fraction(1, 3 ** 600))
        moves = [(0, 0, pair(part)) for part in parts] + [(0, 1, pair(Fraction(1, 2) - part)) for part in parts]
        refused(self, TooMany, merged_moves, tuple(moves), limit=300)

    def test_sums_that_are_nearly_1(self):
        moves = ((0, 0, (1, LONGEST)), (0, 0, (1, 10 ** 299)), (0, 1, (LONGEST - 1, LONGEST)))
        refused(self, InvalidGame, merged_moves, moves)


class Making(unittest.TestCase):
    def test_numbers_of_games(self):
        for many in range(1, 5):
            house = House({name: circle(2) for name in "dcba"[:many]})
            self.assertEqual((len(house), house.size), (many, 2))
        refused(self, InvalidHouse, House, {})
        refused(self, InvalidHouse, House, {name: circle(2) for name in "abcde"})

    def test_numbers_of_standings(self):
        for size in range(1, 9):
            self.assertEqual(House({"a": circle(size)}).size, size)
        refused(self, InvalidHouse, House, {"a": circle(9)})
        refused(self, InvalidHouse, House, {"a": circle(2), "b": circle(3)})
        refused(self, InvalidHouse, House, {"a": circle(2), "b": circle(2), "c": circle(1)})

    def test_wrong_names(self):
        for name in ("", "A", "a b", "abcdefghi", "a1", 1, None, True, ("a",), TOO_LONG, b"a"):
            refused(self, InvalidHouse, House, {name: circle(2)})
            refused(self, InvalidHouse, House, {"a": circle(2), name: circle(2)})

    def test_wrong_games(self):
        for game in OTHERS + (0, SWAP, STAY, [STAY], ((),)):
            refused(self, InvalidHouse, House, {"a": game})
            refused(self, InvalidHouse, House, {"a": circle(2), "b": game})

    def test_other_kinds(self):
        for value in OTHERS + (0, SWAP, "a", (("a", circle(2)),), [("a", circle(2))], ["a"]):
            refused(self, InvalidHouse, House, value)

    def test_the_order_of_the_dict_has_no_effect(self):
        one = House({"b": circle(2), "a": circle(2, 1), "ab": circle(2, 2)})
        other = House({"ab": circle(2, 2), "a": circle(2, 1), "b": circle(2)})
        self.assertEqual(one, other)
        self.assertEqual([list(one.games), one.names, list(one)], [["a", "ab", "b"], ("a", "ab", "b"), ["a", "ab", "b"]])
        self.assertEqual((one.lines, str(one)), (other.lines, str(other)))

    def test_no_shared_state(self):
        games = dict(SWAP_GAMES)
        house = House(games)
        del games["c"]
        games["d"] = circle(2)
        self.assertEqual(house, SWAP)
        out = house.games
        out["e"] = circle(2)
        del out["c"]
        self.assertEqual(house, SWAP)
        self.assertEqual(house.games, SWAP_GAMES)


class Asking(unittest.TestCase):
    def test_properties(self):
        self.assertEqual(SWAP.games, SWAP_GAMES)
        self.assertEqual((SWAP.names, SWAP.size, SWAP.seen), (("c", "d"), 2, (-1, 0, 1)))
        house = three_ways()
        self.assertEqual((house.names, house.size, house.seen), (("a",), 6, (-4, -2, 0, 1, 2, 3, 5, 7)))

    def test_lines_are_ascending_by_numbers(self):
        moves = ((0, -10, (1, 4)), (0, -9, (1, 4)), (0, 9, (1, 4)), (0, 10, (1, 4)))
        house = House({"b": (moves,), "a": (STAY,)})
        self.assertEqual(house.lines, ("a 0 0 0 1", "b 0 0 -10 1/4", "b 0 0 -9 1/4", "b 0 0 9 1/4", "b 0 0 10 1/4"))

    def test_against_the_moves(self):
        for house in some_houses(21, 60):
            for name in house.names:
                for standing in range(house.size):
                    moves = house[name][standing]
                    for to in range(house.size):
                        by = sum(Fraction(*move[2]) for move in moves if move[0] == to)
                        self.assertEqual(house.chance(name, standing, to), pair(by))
                    gain = sum(move[1] * Fraction(*move[2]) for move in moves)
                    self.assertEqual(house.gain(name, standing), pair(gain))
                    near = tuple(to for to in range(house.size) if house.chance(name, standing, to) != (0, 1))
                    self.assertEqual(house.near(name, standing), near)
                gains = sorted({move[1] for moves in house[name] for move in moves})
                self.assertEqual(house.gains_of(name), tuple(gains))
            self.assertEqual(house.seen, tuple(sorted({gain for name in house for gain in house.gains_of(name)})))

    def test_gains_that_are_too_long(self):
        parts = (Fraction(1, 10 ** 299), Fraction(1, 3 ** 600))
        moves = [(0, at, pair(part)) for at, part in enumerate(parts)]
        moves += [(0, 2 + at, pair(Fraction(1, 2) - part)) for at, part in enumerate(parts)]
        house = House({"a": (tuple(moves),)})
        refused(self, TooMany, house.gain, "a", 0, limit=300)
        self.assertEqual(house.chance("a", 0, 0), (1, 1))

    def test_wrong_names(self):
        for name in NOT_NAMES:
            refused(self, UnknownGame, SWAP.chance, name, 0, 0, asked=name)
            refused(self, UnknownGame, SWAP.gain, name, None, asked=name)
            refused(self, UnknownGame, SWAP.near, name, None, asked=name)
            refused(self, UnknownGame, SWAP.gains_of, name, asked=name)
            refused(self, UnknownGame, SWAP.__getitem__, name, asked=name)
            self.assertNotIn(name, SWAP)

    def test_wrong_standings(self):
        for standing in NOT_STANDINGS:
            refused(self, InvalidNumber, SWAP.chance, "c", standing, None, number=standing)
            refused(self, InvalidNumber, SWAP.chance, "c", 1, standing, number=standing)
            refused(self, InvalidNumber, SWAP.gain, "c", standing, number=standing)
            refused(self, InvalidNumber, SWAP.near, "c", standing, number=standing)

    def test_as_a_mapping(self):
        self.assertEqual([SWAP["c"], SWAP["d"]], [SWAP_GAMES["c"], SWAP_GAMES["d"]])
        self.assertEqual(["c" in SWAP, "d" in SWAP, "e" in SWAP], [True, True, False])
        self.assertEqual([len(SWAP), list(SWAP), sorted(SWAP)], [2, ["c", "d"], ["c", "d"]])

    def test_equal_houses(self):
        self.assertEqual(SWAP, House(SWAP_GAMES))
        self.assertFalse(SWAP != House(SWAP_GAMES))
        for other in OTHERS + (0, SEE, SWAP_GAMES, SWAP.turned(), SWAP.without("d"), Ratio(1)):
            self.assertIs(SWAP == other, False)
            self.assertIs(SWAP != other, True)

    def test_texts(self):
        self.assertEqual(str(House({"a": (STAY,)})), "1 games, 1 standings")
        self.assertEqual(str(three_ways()), "1 games, 6 standings")


class Reading(unittest.TestCase):
    def test_lines_are_read_again(self):
        for house in list(some_houses(22, 80)) + [SWAP, SEE, House(PAR_GAMES), three_ways()]:
            self.assertEqual(House.read(*house.lines), house)

    def test_without_lines(self):
        refused(self, ParseError, House.read, line=0)

    def test_lines_that_are_none(self):
        wrong = (
            "", "c", "c 0 0 0", "c 0 0 0 1 1", "c  0 0 0 1", " c 0 0 0 1", "c 0 0 0 1 ", "c 0 0 0 1\n", "c\t0 0 0 1",
            "C 0 0 0 1", "abcdefghi 0 0 0 1", "c1 0 0 0 1", " 0 0 0 1", "c 0 0 0 ", "c 0 0 +1 1", "c 00 0 0 1",
            "c 0 00 0 1", "c 0 0 00 1", "c 0 0 -0 1", "c 0 0 01 1", "c -0 0 0 1", "c -1 0 0 1", "c 0 -1 0 1",
            "c 8 0 0 1", "c 0 8 0 1", "c 10 0 0 1", "c 0 0 100 1", "c 0 0 -100 1", "c 0 0 0 0", "c 0 0 0 2",
            "c 0 0 0 3/2", "c 0 0 0 -1/2", "c 0 0 0 2/4", "c 0 0 0 1/1", "c 0 0 0 1/", "c 0 0 0 0/1", "c 0 0 0 1.0",
            "c 0 0 1/2 1", "c 1/2 0 0 1", "c 0 1/2 0 1", "c 0 0 0 1/-2", "c x 0 0 1", "c 0 x 0 1", "c 0 0 x 1",
            "c 0 0 0 x", "c " + "9" * 300 + " 0 0 1", "c 0 0 0 1/" + "9" * 301, "c 0 0 " + "9" * 8000 + " 1",
        )
        for line in wrong + OTHERS + (0, Ratio(1), SWAP):
            with self.subTest(line=repr(line)[:80]):
                refused(self, ParseError, House.read, line, line=0)
                with self.assertRaises(ParseError) as caught:
                    House.read("a 0 0 0 1", "b 0 0 0 1", line, None)
                self.assertEqual(caught.exception.line, 2)

    def test_lines_that_do_not_come_behind_the_one_ahead(self):
        for line in ("b 1 1 5 1/2", "b 1 1 5 1/3", "b 1 1 4 1/2", "b 1 0 9 1/2", "b 0 7 9 1/2", "a 7 7 9 1/2", "az 0 0 0 1"):
            refused(self, ParseError, House.read, "b 1 1 5 1/2", line, line=1)
        refused(self, ParseError, House.read, "b 0 0 10 1/2", "b 0 0 9 1/2", line=1)
        refused(self, ParseError, House.read, "b 0 0 9 1/2", "b 0 0 -10 1/2", line=1)
        refused(self, ParseError, House.read, "b 0 0 0 1", "c 0 0 0 1", "c 0 0 0 1", "nothing", line=2)

    def test_numbers_at_the_edge(self):
        lines = tuple(f"a {one} {one} {gain} 1/2" for one in range(8) for gain in (-99, 99))
        self.assertEqual(House.read(*lines).lines, lines)
        house = House.read("abcdefgh 0 0 0 1/" + "9" * 300, "abcdefgh 0 0 1 " + "9" * 299 + "8/" + "9" * 300)
        self.assertEqual(house.chance("abcdefgh", 0, 0), (1, 1))

    def test_lines_of_no_house(self):
        for lines in (
            ("a 0 0 0 1/2",),
            ("a 0 0 0 1/2", "a 0 0 1 2/3"),
            ("a 0 1 0 1",),
            ("a 1 0 0 1",),
            ("a 0 0 0 1", "a 2 0 0 1"),
            ("a 0 0 0 1", "b 0 0 0 1", "b 1 0 0 1"),
            ("a 0 0 0 1", "b 0 0 0 1", "c 0 0 0 1", "d 0 0 0 1", "e 0 0 0 1"),
            tuple(f"a 0 0 {gain} 1/13" for gain in range(13)),
        ):
            refused(self, InvalidHouse, House.read, *lines)

    def test_wrong_lines_come_first(self):
        refused(self, ParseError, House.read, "a 0 1 0 1", "a 0 1 0 2", line=1)


if __name__ == "__main__":
    unittest.main()
