"""The promises [0.11], [0.17], [0.22] and [0.23] of mixing, and stage 6."""

import unittest

from reference import PAR_GAMES, SEE_GAMES, SWAP_GAMES, all_rows, places_behind, some_houses, three_ways
from samples import LONGEST, NOT_INTEGERS, NOT_NAMES, NOT_STANDINGS, OTHERS, TOO_LONG, refused
from wonbyturns.base.houses import House
from wonbyturns.base.ratios import Ratio
from wonbyturns.errors import InvalidHouse, InvalidNumber, InvalidRow
from wonbyturns.play.mixing import apart_pairs, do_meet, is_mixing, is_mixing_paper, mixing_length, mixing_paper
from wonbyturns.play.rounds import homes, long_runs

SWAP = House(SWAP_GAMES)
SEE = House(SEE_GAMES)
PAR = House(PAR_GAMES)
ONE = House({"a": (((0, 1, (1, 1)),),)})
NOT_HOUSES = OTHERS + (0, SWAP_GAMES, Ratio(1))


def turned(order):
    """A game that leads each standing to another one."""
    return tuple(((to, 0, (1, 1)),) for to in order)


# Two homes for one game alone, and the same places never come together.
SPLIT = House({"a": turned((1, 0, 3, 2)), "b": turned((2, 3, 0, 1))})
# Eight standings that fall together one by one.
FALLING = House({"a": turned((0, 0, 1, 2, 3, 4, 5, 6))})
# Behind some turns standings 0 and 1 meet; 2 and 3 come there, but can be kept apart as long as wanted.
LATE = House({"a": turned((0, 0, 2, 3)), "b": turned((0, 0, 0, 1))})
# Each game alone comes to one home from everywhere, but not by turns.
BETWEEN = House({"a": turned((0, 0, 1)), "b": turned((1, 2, 2))})


class Examples(unittest.TestCase):
    def test_of_the_document(self):
        self.assertEqual(
            [is_mixing(SWAP), mixing_length(SEE), mixing_paper(SEE)[0], mixing_paper(SWAP)[0], do_meet(SWAP, ("d",), 0, 1)],
            [False, 1, "mixes", "apart", True],
        )

    def test_of_papers(self):
        self.assertEqual(
            [
                is_mixing_paper(SWAP, ("apart", 0, 1, (), ("c", "c"))),
                is_mixing_paper(SWAP, ("apart", 0, 1, (), ("c",))),
                is_mixing_paper(SEE, ("mixes", 7)),
                apart_pairs(SWAP, 1),
                mixing_length(PAR),
            ],
            [True, False, True, (((0,), (1,)),), 1],
        )


class Meeting(unittest.TestCase):
    def test_against_the_places(self):
        for house in some_houses(61, 60, games=(1, 2)):
            for length in range(4):
                for turns in all_rows(house, length):
                    for one in range(house.size):
                        for other in range(house.size):
                            common = places_behind(house, turns, one) & places_behind(house, turns, other)
                            self.assertIs(do_meet(house, turns, one, other), bool(common))

    def test_the_empty_run_of_turns(self):
        self.assertIs(do_meet(SWAP, (), 0, 0), True)
        self.assertIs(do_meet(SWAP, (), 0, 1), False)

    def test_runs_of_any_length(self):
        self.assertIs(do_meet(SWAP, ("c",) * 20000, 0, 1), False)
        self.assertIs(do_meet(SWAP, ("c",) * 20000 + ("d",) + ("c",) * 20000, 0, 1), True)
        self.assertIs(do_meet(FALLING, ("a",) * 6, 0, 7), False)
        self.assertIs(do_meet(FALLING, ("a",) * 7, 0, 7), True)

    def test_wrong_arguments(self):
        for house in NOT_HOUSES:
            refused(self, InvalidHouse, do_meet, house, None, None, None)
        for turns in OTHERS + (0, "c", ["c"], SWAP):
            if turns != ():
                refused(self, InvalidRow, do_meet, SWAP, turns, None, None)
        for name in NOT_NAMES:
            refused(self, InvalidRow, do_meet, SWAP, ("c", name), None, None)
        for standing in NOT_STANDINGS:
            refused(self, InvalidNumber, do_meet, SWAP, ("c",), standing, None, number=standing)
            refused(self, InvalidNumber, do_meet, SWAP, (), 1, standing, number=standing)


class Lengths(unittest.TestCase):
    def test_against_all_runs(self):
        found = []
        for house in some_houses(62, 150, games=(1, 2)):
            least = mixing_length(house)
            found.append(least)
            self.assertIs(is_mixing(house), least is not None)
            for length in range(5):
                places = [
                    [places_behind(house, turns, one) for one in range(house.size)] for turns in all_rows(house, length)
                ]
                do_all = all(one & other for lots in places for one in lots for other in lots)
                self.assertIs(do_all, least is not None and least <= length)
        self.assertEqual({0, 1, 2, 3, None} - set(found), set())

    def test_houses(self):
        lengths = [mixing_length(house) for house in (ONE, SEE, PAR, FALLING, SWAP, SPLIT, LATE, BETWEEN, three_ways())]
        self.assertEqual(lengths, [0, 1, 1, 7, None, None, None, None, None])

    def test_each_game_alone_can_come_to_one_home(self):
        # Yet the house need not mix.
        for name in BETWEEN:
            self.assertEqual(len(homes(BETWEEN, (name,))), 1)
        self.assertIs(is_mixing(BETWEEN), False)
        self.assertIs(is_mixing_paper(BETWEEN, mixing_paper(BETWEEN)), True)

    def test_one_long_run_in_a_house_that_mixes(self):
        seen = 0
        for house in some_houses(63, 200, games=(1, 2)):
            if is_mixing(house):
                seen += 1
                for row in all_rows(house, 3):
                    self.assertEqual(len(set(long_runs(house, row))), 1)
        self.assertGreater(seen, 50)

    def test_wrong_houses(self):
        for house in NOT_HOUSES:
            for call in (is_mixing, mixing_length, mixing_paper):
                refused(self, InvalidHouse, call, house)
            refused(self, InvalidHouse, is_mixing_paper, house, None)
            refused(self, InvalidHouse, apart_pairs, house, None)


class Papers(unittest.TestCase):
    def is_paper(self, house, value):
        """Whether the value is a paper of one of the two forms, by its own words."""
        if value[0] == "mixes":
            return all(
                places_behind(house, turns, one) & places_behind(house, turns, other)
                for turns in all_rows(house, value[1])
                for one in range(house.size)
                for other in range(house.size)
            )
        _, one, other, lead, turns = value
        first = [places_behind(house, lead, one), places_behind(house, lead, other)]
        behind = [places_behind(house, lead + turns, one), places_behind(house, lead + turns, other)]
        return bool(turns) and not first[0] & first[1] and first == behind

    def test_papers(self):
        kinds = []
        for house in list(some_houses(64, 150, games=(1, 2))) + [ONE, SEE, PAR, FALLING, SWAP, SPLIT, LATE, BETWEEN]:
            paper = mixing_paper(house)
            kinds.append(paper[0])
            self.assertTrue(self.is_paper(house, paper))
            self.assertIs(is_mixing_paper(house, paper), True)
            self.assertEqual(paper[0] == "mixes", is_mixing(house))
        self.assertGreater(min(kinds.count("mixes"), kinds.count("apart")), 20)

    def test_all_short_papers_of_some_houses(self):
        for house in [SWAP, SEE, SPLIT, LATE, BETWEEN] + list(some_houses(65, 10, sizes=(2, 3), games=(2,))):
            runs = [turns for length in range(3) for turns in all_rows(house, length)]
            for one in range(house.size):
                for other in range(house.size):
                    for lead in runs:
                        for turns in runs:
                            value = ("apart", one, other, lead, turns)
                            self.assertIs(is_mixing_paper(house, value), self.is_paper(house, value))
            for length in range(4):
                self.assertIs(is_mixing_paper(house, ("mixes", length)), self.is_paper(house, ("mixes", length)))

    def test_greater_lengths(self):
        for length in (1, 2, 12, 13, 1000, LONGEST):
            self.assertIs(is_mixing_paper(SEE, ("mixes", length)), True)
            self.assertIs(is_mixing_paper(SWAP, ("mixes", length)), False)
        self.assertIs(is_mixing_paper(SEE, ("mixes", 0)), False)
        self.assertIs(is_mixing_paper(ONE, ("mixes", 0)), True)
        for length in NOT_INTEGERS + (-1, -LONGEST):
            self.assertIs(is_mixing_paper(SEE, ("mixes", length)), False)

    def test_long_leads_and_rounds(self):
        self.assertIs(is_mixing_paper(SWAP, ("apart", 1, 0, ("c",) * 5001, ("c",) * 10000)), True)
        self.assertIs(is_mixing_paper(SWAP, ("apart", 1, 0, ("c",) * 5001, ("c",) * 10001)), False)
        self.assertIs(is_mixing_paper(SWAP, ("apart", 1, 0, ("c", "d"), ("c", "c"))), False)
        self.assertIs(is_mixing_paper(SWAP, ("apart", 1, 0, (), ("c", "d"))), False)

    def test_the_places_of_each_one_come_back_and_not_those_of_the_other(self):
        self.assertIs(is_mixing_paper(SPLIT, ("apart", 0, 1, (), ("a", "a"))), True)
        self.assertIs(is_mixing_paper(SPLIT, ("apart", 0, 1, (), ("a",))), False)
        self.assertIs(is_mixing_paper(LATE, ("apart", 0, 2, (), ("a",))), True)
        self.assertIs(is_mixing_paper(LATE, ("apart", 3, 1, ("a",), ("a",))), True)
        self.assertIs(is_mixing_paper(LATE, ("apart", 0, 3, ("b",), ("a",))), False)

    def test_other_values(self):
        right = ("apart", 0, 1, (), ("c", "c"))
        self.assertIs(is_mixing_paper(SWAP, right), True)
        for value in OTHERS + (0, SWAP, list(right), right[:4], right + (1,), ("mixes",), ("mixes", 1, 1), "mixes"):
            self.assertIs(is_mixing_paper(SWAP, value), False, repr(value)[:80])
            self.assertIs(is_mixing_paper(SEE, value), False, repr(value)[:80])
        for at in range(5):
            for wrong in OTHERS + (-1, 2, 3, "x", "mixes", ("x",), ("c", "x"), ["c", "c"], (["c"],), TOO_LONG):
                if (at, wrong) != (3, ()):
                    value = right[:at] + (wrong,) + right[at + 1:]
                    self.assertIs(is_mixing_paper(SWAP, value), False, (at, repr(wrong)[:80]))
        self.assertIs(is_mixing_paper(SWAP, ("apart", False, True, (), ("c", "c"))), False)
        self.assertIs(is_mixing_paper(SWAP, ("apart", 0, 0, (), ("c", "c"))), False)
        self.assertIs(is_mixing_paper(SEE, ("apart", 1)), False)
        self.assertIs(is_mixing_paper(SEE, (["mixes"], 1)), False)


class Pairs(unittest.TestCase):
    def test_against_all_runs(self):
        for house in list(some_houses(66, 80, games=(1, 2))) + [SPLIT, LATE, BETWEEN]:
            for length in range(5):
                found = set()
                for turns in all_rows(house, length):
                    for one in range(house.size):
                        for other in range(house.size):
                            lots = [places_behind(house, turns, at) for at in (one, other)]
                            if not lots[0] & lots[1]:
                                found.add(tuple(sorted(tuple(sorted(lot)) for lot in lots)))
                self.assertEqual(apart_pairs(house, length), tuple(sorted(found)))

    def test_lengths_at_the_edge(self):
        both = (((0,), (1,)),)
        self.assertEqual([apart_pairs(SWAP, length) for length in (0, 12, 999, 1000)], [both] * 4)
        self.assertEqual([apart_pairs(SEE, length) for length in (0, 1, 1000)], [both, (), ()])
        self.assertEqual([apart_pairs(ONE, length) for length in (0, 1000)], [(), ()])
        self.assertEqual([len(apart_pairs(FALLING, length)) for length in range(9)], [28, 21, 15, 10, 6, 3, 1, 0, 0])

    def test_levels_that_come_again(self):
        circle = House({"a": turned((1, 2, 0, 4, 3)), "b": turned((0, 0, 0, 3, 3))})
        for length in (10, 11, 12, 13, 14):
            levels = {tuple(sorted(places_behind(circle, ("a",) * length, one))) for one in range(5)}
            self.assertEqual(len(levels), 5)
            self.assertEqual(apart_pairs(circle, length), apart_pairs(circle, length + 6 * 100))

    def test_lots_of_several_standings(self):
        halves = ((0, 0, (1, 2)), (2, 0, (1, 2)))
        others = ((1, 0, (1, 2)), (3, 0, (1, 2)))
        house = House({"a": (others, halves, others, halves)})
        self.assertEqual(apart_pairs(house, 1), (((0, 2), (1, 3)),))
        self.assertEqual(mixing_paper(house)[0], "apart")

    def test_wrong_lengths(self):
        for length in NOT_INTEGERS + (-1, 1001, LONGEST):
            refused(self, InvalidNumber, apart_pairs, SWAP, length, number=length)


class Large(unittest.TestCase):
    def test_eight_standings_and_four_games(self):
        games = {
            "a": turned((1, 2, 3, 4, 5, 6, 7, 0)),
            "b": turned((1, 0, 2, 3, 4, 5, 6, 7)),
            "c": tuple(tuple((to, 0, (1, 2)) for to in sorted((one, (one + 4) % 8))) for one in range(8)),
            "d": turned((0, 0, 2, 2, 4, 4, 6, 6)),
        }
        house = House(games)
        self.assertEqual(mixing_paper(house)[0], "apart")
        self.assertIs(is_mixing_paper(house, mixing_paper(house)), True)
        self.assertGreater(len(apart_pairs(house, 1000)), 28)


if __name__ == "__main__":
    unittest.main()
