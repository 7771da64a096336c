"""The promise [0.21] of purses, stage 12, and the house of the literature in the examples of earlier stages."""

import itertools
import random
import unittest
from fractions import Fraction

from reference import PAR_GAMES, bent, chain_runs, integers_in, moves_table, pair, pairs
from samples import LONGEST, NOT_FRACTIONS, NOT_INTEGERS, OTHERS, refused
from wonbyturns.above.best import turns_paper
from wonbyturns.base.houses import House, is_game
from wonbyturns.base.ratios import Ratio
from wonbyturns.errors import InvalidFraction, InvalidGame, InvalidNumber, InvalidOperation, TooMany
from wonbyturns.lots.mixes import mix_signs
from wonbyturns.play.mixing import mixing_length
from wonbyturns.play.rounds import long_runs
from wonbyturns.purse import games as module
from wonbyturns.purse.games import (
    blended,
    by_rests,
    history_game,
    is_purse,
    is_slope_paper,
    parrondo,
    parrondo_by_history,
    products,
    purse_game,
    slope,
    slope_paper,
    three_verdicts,
    ups_of,
    verdict,
)

PAR = parrondo((1, 200))
HALVES = ((1, 2), (1, 2))
NOT_CHANCES = NOT_FRACTIONS + ((-1, 2), (3, 2), (2, 1))
NOT_PURSES = (
    ((), ()),
    (((1, 2),), ()),
    (HALVES, HALVES[:1]),
    (((1, 2),) * 9, ((1, 2),) * 9),
    (((2, 3),), ((1, 2),)),
    (((-1, 2),), ((1, 2),)),
    (((1, 2),), ((-1, 2),)),
    (((3, 2),), ((0, 1),)),
    (((1, True),), ((0, 1),)),
    (((2, 4),), ((0, 1),)),
    ([(1, 2)], ((1, 2),)),
    (((1, 2),), [(1, 2)]),
    ((1, 2), (1, 2)),
    ((0,), (0,)),
)


def some_purses(seed, many, through=False, most=8):
    """Pairs of chances by a random source with a fixed seed."""
    source = random.Random(seed)
    for _ in range(many):
        ups, downs = [], []
        for _ in range(source.randint(1, most)):
            parts = [source.randint(int(through), 5), source.randint(int(through), 5), source.choice((0, 0, 3))]
            parts[2] += not any(parts)
            ups.append(Fraction(parts[0], sum(parts)))
            downs.append(Fraction(parts[1], sum(parts)))
        yield ups, downs


def run_by_chain(ups, downs):
    """The long run of a purse, by the chain of its rests."""
    size = len(ups)
    table = [[Fraction(0)] * size for _ in range(size)]
    for one, (up, down) in enumerate(zip(ups, downs)):
        for to, by in ((one + 1, up), (one - 1, down), (one, 1 - up - down)):
            table[one][to % size] += by
    runs = chain_runs(table, [up - down for up, down in zip(ups, downs)])
    return runs


def product(chances):
    """The product of Fractions."""
    found = Fraction(1)
    for chance in chances:
        found *= chance
    return found


class Examples(unittest.TestCase):
    def test_of_the_literature(self):
        b = ups_of(PAR["b"])
        self.assertEqual(
            [
                b[0],
                products(b[0], b[1]),
                verdict(b[0], b[1]),
                three_verdicts((19, 200), (149, 200), (99, 200), (1, 2)),
            ],
            [
                ((19, 200), (149, 200), (149, 200)),
                ((421819, 8000000), (470781, 8000000)),
                "loses",
                ("loses", "loses", "wins"),
            ],
        )

    def test_of_slopes(self):
        self.assertEqual(
            [
                slope(((1, 2),), ((1, 3),)),
                slope(((1, 4), (3, 4)), ((3, 4), (1, 4))),
                is_slope_paper(((1, 2),), ((1, 3),), ((1, 6), ((5, 1),))),
                history_game(((1, 3), (1, 2))),
            ],
            [
                (1, 6),
                (0, 1),
                True,
                (((0, -1, (2, 3)), (1, 1, (1, 3))), ((0, -1, (1, 2)), (1, 1, (1, 2)))),
            ],
        )

    def test_of_earlier_stages(self):
        self.assertEqual(mixing_length(PAR), 1)
        self.assertEqual(turns_paper(PAR, 4, 0)[0], "won")
        self.assertEqual(mix_signs(PAR, "a", "b")[1], (-1, 1, -1))
        self.assertTrue(all(run[0] < 0 for name in PAR for run in long_runs(PAR, (name,))))
        self.assertTrue(all(run[0] > 0 for run in long_runs(PAR, ("a", "a", "b", "b"))))


class Games(unittest.TestCase):
    def test_games(self):
        for ups, downs in some_purses(151, 150):
            told = pairs(ups), pairs(downs)
            self.assertIs(is_purse(*told), True)
            game = purse_game(*told)
            self.assertIs(is_game(game), True)
            for rest, moves in enumerate(game):
                size = len(ups)
                wanted = [
                    ((rest + 1) % size, 1, ups[rest]),
                    ((rest - 1) % size, -1, downs[rest]),
                    (rest, 0, 1 - ups[rest] - downs[rest]),
                ]
                self.assertEqual(moves, tuple(sorted((to, gain, pair(by)) for to, gain, by in wanted if by)))
            self.assertEqual(ups_of(game), told)

    def test_one_and_eight_rests(self):
        self.assertEqual((module.MAX_RESTS, module.MAX_LAST), (8, 3))
        self.assertEqual(purse_game(((1, 2),), ((1, 3),)), (((0, -1, (1, 3)), (0, 0, (1, 6)), (0, 1, (1, 2))),))
        self.assertEqual(purse_game(((0, 1),), ((0, 1),)), (((0, 0, (1, 1)),),))
        self.assertEqual(purse_game(((1, 1),), ((0, 1),)), (((0, 1, (1, 1)),),))
        self.assertEqual(purse_game(HALVES, HALVES)[0], ((1, -1, (1, 2)), (1, 1, (1, 2))))
        self.assertEqual(purse_game(((1, 2),) * 8, ((0, 1),) * 8)[7], ((0, 1, (1, 2)), (7, 0, (1, 2))))

    def test_what_is_no_purse(self):
        others = [value for value in OTHERS + (0,) if value != HALVES[:1]]
        for ups, downs in NOT_PURSES + tuple(itertools.product(others, others + [HALVES[:1]])):
            self.assertIs(is_purse(ups, downs), False)
            self.assertIs(is_purse(downs, ups), False)
        for ups, downs in NOT_PURSES + ((None, None), (HALVES, None)):
            for call in (purse_game, products, verdict, slope, slope_paper):
                refused(self, InvalidGame, call, ups, downs)
            refused(self, InvalidGame, is_slope_paper, ups, downs, None)
            refused(self, InvalidGame, by_rests, ups, downs, None)

    def test_games_of_no_purse(self):
        wrong = (
            (((0, 2, (1, 1)),),),
            (((0, -1, (1, 2)), (0, 2, (1, 2))),),
            (((0, 1, (1, 1)),), ((0, 1, (1, 1)),)),
            (((1, 0, (1, 1)),), ((0, 0, (1, 1)),)),
            (((1, 1, (1, 1)),), ((2, 1, (1, 1)),), ((1, 1, (1, 1)),)),
            (((1, -1, (1, 1)),), ((2, 1, (1, 1)),), ((0, 1, (1, 1)),)),
            (((0, 1, (1, 2)), (1, 1, (1, 2))), ((0, 1, (1, 1)),)),
            PAR_GAMES["b"][1:],
            list(PAR_GAMES["b"]),
        )
        for game in wrong + OTHERS + (0, PAR, Ratio(1)):
            refused(self, InvalidGame, ups_of, game)
        self.assertEqual(ups_of(PAR_GAMES["a"]), (((99, 200),) * 3, ((101, 200),) * 3))

    def test_long_numbers(self):
        one, other = (1, LONGEST), (1, 10 ** 299)
        self.assertIs(is_purse((one,), (other,)), True)
        refused(self, TooMany, purse_game, (one,), (other,), limit=300)
        refused(self, TooMany, products, (one, one), (other, other), limit=300)
        refused(self, TooMany, slope, (one,), (other,), limit=300)
        refused(self, TooMany, slope_paper, (one,), (other,), limit=300)
        self.assertEqual(verdict((one,), (other,)), "loses")
        self.assertIs(is_slope_paper((one,), (other,), ((0, 1), ((0, 1),))), False)
        self.assertEqual(products((one,), (other,)), (one, other))


class Slopes(unittest.TestCase):
    def test_verdicts_and_slopes(self):
        words = {}
        for ups, downs in list(some_purses(152, 200, through=True)) + list(some_purses(153, 200, True, 2)):
            told = pairs(ups), pairs(downs)
            self.assertEqual(products(*told), (pair(product(ups)), pair(product(downs))))
            run = run_by_chain(ups, downs)[0]
            self.assertEqual(slope(*told), pair(run))
            word = verdict(*told)
            self.assertEqual(word, "wins" if run > 0 else "loses" if run < 0 else "fair")
            self.assertEqual(word, "wins" if product(ups) > product(downs) else
                             "loses" if product(ups) < product(downs) else "fair")
            self.assertEqual(long_runs(House({"a": purse_game(*told)}), ("a",)), (slope(*told),) * len(ups))
            words[word] = words.get(word, 0) + 1
        self.assertGreater(min(words.values()), 10)
        self.assertEqual(len(words), 3)

    def test_products_with_0(self):
        self.assertEqual(products(((0, 1), (1, 2)), ((1, 2), (1, 2))), ((0, 1), (1, 4)))

    def test_purses_that_do_not_go_through(self):
        for ups, downs in ((((0, 1),), ((1, 2),)), (((1, 2), (1, 2)), ((1, 2), (0, 1))), (((1, 1),), ((0, 1),))):
            self.assertIs(is_purse(ups, downs), True)
            for call in (verdict, slope, slope_paper):
                refused(self, InvalidOperation, call, ups, downs)
            refused(self, InvalidOperation, is_slope_paper, ups, downs, None)

    def test_papers(self):
        for ups, downs in some_purses(154, 80, through=True):
            told = pairs(ups), pairs(downs)
            paper = slope_paper(*told)
            self.assertIs(is_slope_paper(*told, paper), True)
            self.assertTrue(is_paper_by_definition(ups, downs, paper))
            self.assertEqual(paper[0], slope(*told))
            self.assertLess(max(map(abs, integers_in(paper))), 10 ** 60)
            moved = tuple(pair(Fraction(*one) - Fraction(9, 2)) for one in paper[1])
            self.assertIs(is_slope_paper(*told, (paper[0], moved)), True)
            for other in bent(paper):
                self.assertIs(is_slope_paper(*told, other), is_paper_by_definition(ups, downs, other))

    def test_what_is_no_paper(self):
        wrong = (
            ((1, 6),),
            ((1, 6), ((5, 1),), ()),
            [(1, 6), ((5, 1),)],
            ((1, 6), [(5, 1)]),
            ((1, 6), ()),
            ((1, 6), ((5, 1), (5, 1))),
            ((1, 6), ((5, True),)),
            ((2, 12), ((5, 1),)),
            ((1, 7), ((5, 1),)),
            (((1, 6),), ((5, 1),)),
            ((1, 6), (5, 1)),
        )
        for value in wrong + OTHERS + (0,):
            self.assertIs(is_slope_paper(((1, 2),), ((1, 3),), value), False)


def is_paper_by_definition(ups, downs, paper):
    """Whether the equations of a paper hold."""
    run, weights = Fraction(*paper[0]), [Fraction(*one) for one in paper[1]]
    size = len(ups)
    for rest, (up, down) in enumerate(zip(ups, downs)):
        behind = up * weights[(rest + 1) % size] + down * weights[rest - 1] + (1 - up - down) * weights[rest]
        if run + weights[rest] != up - down + behind:
            return False
    return True


class OtherPurses(unittest.TestCase):
    def test_blended(self):
        source = random.Random(155)
        purses = list(some_purses(155, 200))
        for one, other in itertools.product(purses[:30], purses[30:60]):
            if len(one[0]) == len(other[0]):
                share = Fraction(source.randint(0, 4), 4)
                found = blended(tuple(map(pairs, one)), tuple(map(pairs, other)), pair(share))
                for part, some, others in zip(found, one, other):
                    self.assertEqual(part, pairs(share * x + (1 - share) * y for x, y in zip(some, others)))
                self.assertIs(is_purse(*found), True)

    def test_blended_as_games(self):
        for share in ((0, 1), (1, 3), (1, 1)):
            both = blended(ups_of(PAR["a"]), ups_of(PAR["b"]), share)
            self.assertEqual(purse_game(*both), PAR.blend("m", "a", "b", share)["m"])

    def test_blended_with_wrong_arguments(self):
        one = (HALVES, HALVES)
        for ups, downs in NOT_PURSES:
            refused(self, InvalidGame, blended, (ups, downs), None, None)
            refused(self, InvalidGame, blended, one, (ups, downs), None)
        for value in OTHERS + (0, one[0], one + one, list(one), PAR["a"]):
            refused(self, InvalidGame, blended, value, None, None)
            refused(self, InvalidGame, blended, one, value, None)
        refused(self, InvalidOperation, blended, one, (((1, 2),), ((1, 2),)), None)
        for share in NOT_CHANCES:
            refused(self, InvalidFraction, blended, one, one, share)
        long = (((1, LONGEST),), ((1, 2),))
        refused(self, TooMany, blended, long, (((1, 2),), ((1, 3),)), (1, LONGEST), limit=300)

    def test_by_rests(self):
        for ups, downs in some_purses(156, 60, through=True, most=4):
            told = pairs(ups), pairs(downs)
            for many in range(1, 8 // len(ups) + 1):
                found = by_rests(*told, many)
                self.assertEqual(found, (told[0] * many, told[1] * many))
                self.assertEqual(slope(*found), slope(*told))
                self.assertEqual(verdict(*found), verdict(*told))
            for many in (8 // len(ups) + 1, 9, LONGEST):
                refused(self, InvalidGame, by_rests, *told, many)

    def test_by_rests_with_wrong_numbers(self):
        for many in NOT_INTEGERS + (0, -1, -LONGEST):
            refused(self, InvalidNumber, by_rests, HALVES, HALVES, many, number=many)


class Histories(unittest.TestCase):
    def test_games(self):
        source = random.Random(157)
        for last, _ in itertools.product((1, 2, 3), range(20)):
            ups = [Fraction(source.randint(0, 4), 4) for _ in range(2 ** last)]
            game = history_game(pairs(ups))
            self.assertIs(is_game(game), True)
            for outcomes in itertools.product((0, 1), repeat=last):
                moves = []
                for outcome, by in ((0, 1 - ups[number_of(outcomes)]), (1, ups[number_of(outcomes)])):
                    if by:
                        moves.append((number_of(outcomes[1:] + (outcome,)), 2 * outcome - 1, pair(by)))
                self.assertEqual(game[number_of(outcomes)], tuple(sorted(moves)))

    def test_wrong_chances(self):
        wrong = (
            (),
            ((1, 2),),
            ((1, 2),) * 3,
            ((1, 2),) * 5,
            ((1, 2),) * 16,
            [(1, 2), (1, 2)],
            ((1, 2), (3, 2)),
            ((1, 2), (-1, 2)),
            ((1, 2), (1, True)),
            ((1, 2), (2, 4)),
            (1, 2),
        )
        for ups in wrong + OTHERS + (0,):
            refused(self, InvalidGame, history_game, ups)


def number_of(outcomes):
    """The number of outcomes, the latest one last, with base two."""
    found = 0
    for outcome in outcomes:
        found = 2 * found + outcome
    return found


class Parrondo(unittest.TestCase):
    def test_by_rests(self):
        self.assertEqual(PAR, House(PAR_GAMES))
        for less in (Fraction(0), Fraction(1, 200), Fraction(1, 11), Fraction(99, 1000)):
            house = parrondo(pair(less))
            self.assertEqual(ups_of(house["a"]), ((pair(Fraction(1, 2) - less),) * 3, (pair(Fraction(1, 2) + less),) * 3))
            ups = [Fraction(1, 10) - less] + [Fraction(3, 4) - less] * 2
            self.assertEqual(ups_of(house["b"]), (pairs(ups), pairs(1 - up for up in ups)))
            self.assertEqual((house.names, house.size), (("a", "b"), 3))

    def test_by_history(self):
        for less in (Fraction(0), Fraction(1, 1000), Fraction(99, 1000)):
            house = parrondo_by_history(pair(less))
            self.assertEqual(house["a"], history_game((pair(Fraction(1, 2) - less),) * 4))
            ups = [Fraction(top, 20) - less for top in (18, 5, 5, 14)]
            self.assertEqual(house["b"], history_game(pairs(ups)))
        house = parrondo_by_history((1, 1000))
        self.assertTrue(all(run[0] < 0 for name in house for run in long_runs(house, (name,))))
        self.assertTrue(all(run[0] > 0 for run in long_runs(house, ("a", "b"))))

    def test_fair_games(self):
        for house in (parrondo((0, 1)), parrondo_by_history((0, 1))):
            self.assertEqual({run for name in house for run in long_runs(house, (name,))}, {(0, 1)})

    def test_wrong_fractions(self):
        for call in (parrondo, parrondo_by_history):
            for less in NOT_FRACTIONS + ((1, 10), (1, 9), (1, 1), (-1, 200), (-1, LONGEST)):
                refused(self, InvalidFraction, call, less)
            refused(self, TooMany, call, (1, LONGEST), limit=300)
            self.assertEqual(call((1, 10 ** 299)).size, len(call((0, 1))["a"]))

    def test_three_verdicts(self):
        source = random.Random(158)
        words = {}
        for _ in range(300):
            low, high, up = [Fraction(source.randint(1, 9), 10) for _ in range(3)]
            share = Fraction(source.randint(0, 6), 6)
            purses = [[low, high, high], [up] * 3]
            purses.append([share * one + (1 - share) * other for one, other in zip(*purses)])
            wanted = tuple(verdict(pairs(ups), pairs(1 - one for one in ups)) for ups in purses)
            self.assertEqual(three_verdicts(pair(low), pair(high), pair(up), pair(share)), wanted)
            words[wanted] = True
        self.assertGreater(len(words), 8)

    def test_three_verdicts_with_wrong_arguments(self):
        half = (1, 2)
        wrong = NOT_CHANCES + ((0, 1), (1, 1))
        for value in wrong:
            refused(self, InvalidFraction, three_verdicts, value, half, half, half)
            refused(self, InvalidFraction, three_verdicts, half, value, half, half)
            refused(self, InvalidFraction, three_verdicts, half, half, value, half)
        for value in NOT_CHANCES:
            refused(self, InvalidFraction, three_verdicts, half, half, half, value)
        self.assertEqual(three_verdicts(half, half, half, (0, 1)), ("fair",) * 3)
        tiny = (1, LONGEST)
        self.assertEqual(three_verdicts(tiny, tiny, tiny, tiny), ("loses",) * 3)


if __name__ == "__main__":
    unittest.main()
