"""The promises [0.12], [0.15], [0.16], [0.18], [0.22] and stage 7: sets of weights."""

import unittest
from fractions import Fraction

from reference import (
    PAR_GAMES,
    SEE_GAMES,
    SWAP_GAMES,
    all_rows,
    bound_by_definition,
    greatest_by_trying,
    integers_in,
    led_back_by,
    numbers,
    pair,
    pairs,
    purse,
    some_houses,
    some_rows,
    three_ways,
    total_of,
)
from samples import LONGEST, NOT_FRACTIONS, NOT_INTEGERS, NOT_NAMES, NOT_STANDINGS, OTHERS, refused
from wonbyturns.above import weights as module
from wonbyturns.above.closed import closed_weights
from wonbyturns.above.weights import (
    Weights,
    above_paper,
    ceiling,
    closing_bound,
    does_close,
    greatest_row,
    greatest_total,
    is_above_paper,
    is_weight_vector,
    is_weights,
    led_back,
    lies_below,
    weights_of,
)
from wonbyturns.base.houses import House
from wonbyturns.base.ratios import Ratio
from wonbyturns.errors import (
    InvalidFraction,
    InvalidHouse,
    InvalidNumber,
    InvalidOperation,
    InvalidWeights,
    TooMany,
    UnknownGame,
)
from wonbyturns.play.rounds import long_runs
from wonbyturns.play.rows import row_total

SWAP = House(SWAP_GAMES)
SEE = House(SEE_GAMES)
PAR = House(PAR_GAMES)
NOT_HOUSES = OTHERS + (0, SWAP_GAMES, Ratio(1))
ZERO, TWO = ((0, 1), (0, 1)), (((-1, 1), (1, 1)), ((1, 1), (-1, 1)))
NOT_VECTORS = OTHERS + (0, ((1, 1),), ((1, 1),) * 3, [(1, 1), (1, 1)], Ratio(1), ((1, 1), (2, 2)), ((True, 1), (1, 1)))
NOT_WEIGHTS = OTHERS + (
    0, SWAP, ZERO, [ZERO], TWO[::-1], (ZERO, ZERO), (ZERO, None), (None, ZERO), (ZERO, ((1, 1),)), (((0, 1),),),
    (((0, 1), (0, 2)),), (((False, 1), (0, 1)),), {0: ZERO}, TWO + ((0, 1),),
)


def many_vectors(many, size=2):
    """So many ascending vectors."""
    return tuple(((at, 1),) * size for at in range(many))


def some_weights(at, size):
    """A set of some vectors."""
    vectors = {pairs(Fraction((3 * at + 5 * one + 7 * to) % 11 - 5, at % 3 + 1) for to in range(size)) for one in range(at % 5 + 1)}
    return tuple(sorted(vectors))


def bound_of(house, weights):
    """The closing bound as the pair of a Fraction."""
    return pair(bound_by_definition(house, weights))


class Examples(unittest.TestCase):
    def test_of_the_document(self):
        self.assertEqual(
            [led_back(SEE, "e", ZERO), closing_bound(SEE, (ZERO,)), closing_bound(SEE, TWO), does_close(SEE, (0, 1), TWO), ceiling(SEE, 3)],
            [((1, 1), (-1, 1)), (1, 1), (0, 1), True, (1, 3)],
        )

    def test_of_papers(self):
        self.assertEqual(
            [
                greatest_total(SWAP, 2),
                ceiling(SWAP, 2),
                is_above_paper(SEE, ((1, 4), TWO)),
                is_above_paper(SEE, ((-1, 4), TWO)),
                str(Weights(SEE, TWO)),
                Weights(SEE, TWO).follows("e", 0),
            ],
            [(1, 1), (1, 2), True, False, "2 vectors, 0/1", 1],
        )

    def test_constants(self):
        self.assertEqual((module.MAX_VECTORS, module.MAX_LENGTH), (200, 12))


class Judging(unittest.TestCase):
    def test_vectors(self):
        for vector in (ZERO, TWO[0], ((LONGEST, 1), (1, LONGEST))):
            self.assertIs(is_weight_vector(SWAP, vector), True)
        for vector in NOT_VECTORS:
            self.assertIs(is_weight_vector(SWAP, vector), False, repr(vector)[:80])
        for number in NOT_FRACTIONS:
            self.assertIs(is_weight_vector(SWAP, ((1, 1), number)), False)
            self.assertIs(is_weights(SWAP, (((1, 1), number),)), False)

    def test_sets_of_weights(self):
        for weights in ((ZERO,), TWO, many_vectors(200)):
            self.assertIs(is_weights(SWAP, weights), True)
        for weights in NOT_WEIGHTS + (many_vectors(201), ()):
            self.assertIs(is_weights(SWAP, weights), False, repr(weights)[:80])

    def test_the_order_is_that_of_the_pairs(self):
        one, other = ((1, 2), (0, 1)), ((1, 3), (0, 1))
        self.assertIs(is_weights(SWAP, (one, other)), True)
        self.assertIs(is_weights(SWAP, (other, one)), False)
        self.assertIs(is_weights(SWAP, (((0, 1), (1, 2)), ((0, 1), (1, 3)))), True)

    def test_no_houses(self):
        for house in NOT_HOUSES:
            for call in (is_weight_vector, is_weights, is_above_paper):
                refused(self, InvalidHouse, call, house, None)


class Leading(unittest.TestCase):
    def test_leading_back(self):
        for at, house in enumerate(some_houses(71, 80)):
            for vector in some_weights(at, house.size):
                for name in house:
                    self.assertEqual(led_back(house, name, vector), pairs(led_back_by(house, name, numbers(vector))))

    def test_wrong_arguments(self):
        for house in NOT_HOUSES:
            refused(self, InvalidHouse, led_back, house, None, None)
            refused(self, InvalidHouse, lies_below, house, None, None)
        for name in NOT_NAMES:
            refused(self, UnknownGame, led_back, SWAP, name, None, asked=name)
        for vector in NOT_VECTORS:
            refused(self, InvalidWeights, led_back, SWAP, "c", vector)
            refused(self, InvalidWeights, lies_below, SWAP, vector, ZERO)
            refused(self, InvalidWeights, lies_below, SWAP, ZERO, vector)

    def test_numbers_that_are_too_long(self):
        refused(self, TooMany, led_back, SWAP, "c", ((0, 1), (LONGEST, 1)), limit=300)
        self.assertEqual(led_back(SWAP, "d", ((LONGEST, 1), (1, LONGEST))), ((LONGEST, 1), (LONGEST, 1)))

    def test_lying_below(self):
        half, third = (1, 2), (1, 3)
        self.assertIs(lies_below(SWAP, ZERO, ZERO), True)
        self.assertIs(lies_below(SWAP, (third, half), (half, half)), True)
        self.assertIs(lies_below(SWAP, (half, half), (third, half)), False)
        self.assertIs(lies_below(SWAP, (half, third), (half, half)), True)
        self.assertIs(lies_below(SWAP, (half, half), (half, third)), False)
        self.assertIs(lies_below(SWAP, (third, half), (half, third)), False)
        close = (LONGEST - 1, LONGEST), (LONGEST - 2, LONGEST - 1)
        self.assertIs(lies_below(SWAP, (close[1], half), (close[0], half)), True)
        self.assertIs(lies_below(SWAP, (close[0], half), (close[1], half)), False)


class Closing(unittest.TestCase):
    def test_bounds(self):
        for at, house in enumerate(some_houses(72, 120)):
            weights = some_weights(at, house.size)
            top, bottom = bound_of(house, weights)
            self.assertEqual(closing_bound(house, weights), (top, bottom))
            for bound in ((top, bottom), pair(Fraction(top, bottom) + Fraction(1, 10 ** 280)), (99, 1)):
                self.assertIs(does_close(house, bound, weights), True)
                self.assertIs(is_above_paper(house, (bound, weights)), True)
            for bound in (pair(Fraction(top, bottom) - Fraction(1, 10 ** 280)), (-100, 1)):
                self.assertIs(does_close(house, bound, weights), False)
                self.assertIs(is_above_paper(house, (bound, weights)), False)

    def test_no_row_gains_more(self):
        # [0.15]: what is closed bounds the long runs of all rows from all standings.
        for at, house in enumerate(some_houses(73, 60)):
            weights = some_weights(at, house.size)
            bound = Fraction(*closing_bound(house, weights))
            for row in some_rows(at, house, 3):
                self.assertLessEqual(max(numbers(long_runs(house, row))), bound)

    def test_the_same_vector_at_all_standings(self):
        self.assertEqual(closing_bound(SEE, (TWO[0],)), (2, 1))
        self.assertEqual(closing_bound(SEE, TWO), (0, 1))

    def test_many_vectors(self):
        self.assertEqual(closing_bound(SWAP, many_vectors(200)), (1, 1))
        house = House(purse(Fraction(1, 7), Fraction(2, 7), Fraction(3, 7)))
        weights = tuple(sorted(((at % 20, 1), (at // 20, 1), (-at, 7)) for at in range(200) if at % 7))
        self.assertEqual(closing_bound(house, weights), bound_of(house, weights))

    def test_wrong_arguments(self):
        for house in NOT_HOUSES:
            refused(self, InvalidHouse, closing_bound, house, None)
            refused(self, InvalidHouse, does_close, house, None, None)
            refused(self, InvalidHouse, Weights, house, None)
        for bound in NOT_FRACTIONS:
            refused(self, InvalidFraction, does_close, SWAP, bound, None)
        for weights in NOT_WEIGHTS + (many_vectors(201), ()):
            refused(self, InvalidWeights, closing_bound, SWAP, weights)
            refused(self, InvalidWeights, does_close, SWAP, (1, 1), weights)
            refused(self, InvalidWeights, Weights, SWAP, weights)

    def test_a_bound_that_is_too_long(self):
        weights = (((0, 1), (1, LONGEST)),)
        house = House({"a": (((0, 1, (1, LONGEST)), (1, 1, (LONGEST - 1, LONGEST))),) * 2})
        refused(self, TooMany, closing_bound, house, weights, limit=300)
        self.assertIs(does_close(house, (2, 1), weights), True)
        self.assertIs(does_close(house, (1, 2), weights), False)
        self.assertIs(is_above_paper(house, ((2, 1), weights)), True)
        refused(self, TooMany, str, Weights(house, weights), limit=300)


class Totals(unittest.TestCase):
    def test_greatest_totals(self):
        for house in some_houses(74, 60, games=(1, 2, 3)):
            for length in range(1, 5):
                top = greatest_by_trying(house, length)
                self.assertEqual(greatest_total(house, length), pair(top))
                self.assertEqual(ceiling(house, length), pair(top / length))
                row, standing = greatest_row(house, length)
                self.assertEqual(len(row), length)
                self.assertEqual(row_total(house, row, standing), pair(top))

    def test_sums_of_lengths(self):
        # [0.18]: M(N + K) is at most M(N) + M(K).
        for house in [PAR, SEE, SWAP] + list(some_houses(75, 10)):
            totals = [Fraction(*greatest_total(house, length)) for length in range(1, 9)]
            for one in range(1, 5):
                for other in range(1, 5):
                    self.assertLessEqual(totals[one + other - 1], totals[one - 1] + totals[other - 1])

    def test_long_rows(self):
        for house, length in ((PAR, 10), (SEE, 12)):
            row, standing = greatest_row(house, length)
            self.assertEqual(row_total(house, row, standing), greatest_total(house, length))
        self.assertEqual(greatest_total(PAR, 10), pair(max(Fraction(*row_total(PAR, row, at)) for row in all_rows(PAR, 10) for at in range(3))))
        self.assertEqual([greatest_total(SWAP, length) for length in range(1, 13)], [((length + 1) // 2, 1) for length in range(1, 13)])

    def test_four_games_of_twelve_turns(self):
        house = PAR.blend("c", "a", "b", (1, 3)).blend("d", "a", "b", (3, 4))
        row, standing = greatest_row(house, 12)
        self.assertEqual(row_total(house, row, standing), greatest_total(house, 12))
        # A game that is a lot between two others does no better than the better one of them.
        self.assertEqual(greatest_total(house, 12), greatest_total(PAR, 12))
        self.assertIs(does_close(house, ceiling(house, 12), weights_of(house, 12)), True)

    def test_negative_totals(self):
        house = PAR.paid("a", -5).paid("b", -9)
        self.assertEqual(greatest_total(house, 3), pair(greatest_by_trying(house, 3)))
        self.assertIs(does_close(house, ceiling(house, 3), weights_of(house, 3)), True)
        self.assertLess(ceiling(house, 3)[0], 0)

    def test_wrong_arguments(self):
        for call in (greatest_total, ceiling, greatest_row, weights_of, above_paper):
            for house in NOT_HOUSES:
                refused(self, InvalidHouse, call, house, None)
            for length in NOT_INTEGERS + (0, -1, 13, LONGEST):
                refused(self, InvalidNumber, call, SWAP, length, number=length)

    def test_too_many_vectors(self):
        # Four games that only change places: few of their vectors lie below others.
        orders = ((3, 7, 0, 5, 1, 2, 6, 4), (2, 5, 6, 0, 7, 1, 4, 3), (1, 4, 3, 6, 2, 7, 5, 0), (6, 0, 7, 2, 3, 4, 1, 5))
        games = {}
        for at, order in enumerate(orders):
            games["abcd"[at]] = tuple(((to, (to * to + at * one) % 19 - 9, (1, 1)),) for one, to in enumerate(order))
        house = House(games)
        for call in (greatest_row, weights_of):
            refused(self, TooMany, call, house, 12, limit=20000)
        self.assertEqual(greatest_total(house, 4), pair(greatest_by_trying(house, 4)))

    def test_totals_that_are_too_long(self):
        house = House({"a": (((0, 0, (1, LONGEST)), (1, 1, (LONGEST - 1, LONGEST))), ((1, 0, (1, 1)),))})
        for call in (greatest_total, ceiling, weights_of, above_paper):
            refused(self, TooMany, call, house, 12, limit=300)
        self.assertEqual(greatest_total(house, 1), (LONGEST - 1, LONGEST))


class Papers(unittest.TestCase):
    def check(self, house, length):
        """The weights of a length are closed for its ceiling, and a paper says so."""
        weights = weights_of(house, length)
        self.assertIs(is_weights(house, weights), True)
        self.assertLessEqual(bound_by_definition(house, weights), Fraction(*ceiling(house, length)))
        bound, others = above_paper(house, length)
        self.assertEqual(bound, ceiling(house, length))
        self.assertIs(is_above_paper(house, (bound, others)), True)
        self.assertLessEqual(bound_by_definition(house, others), Fraction(*bound))
        # There are no more vectors than are needed.
        self.assertEqual(Weights(house, weights).lean().vectors, weights)
        return weights

    def test_weights_of_lengths(self):
        for house in [PAR, SEE, SWAP, three_ways()]:
            for length in range(1, 13):
                self.check(house, length)
        for house in some_houses(76, 40, games=(1, 2, 3, 4)):
            for length in (1, 2, 3, 5):
                self.check(house, length)

    def test_vectors_that_lie_below_later_ones(self):
        house = House.read(
            "a 0 0 -1 1", "a 1 0 1 1", "a 2 0 -3 1", "b 0 0 0 3/8", "b 0 2 2 5/8",
            "b 1 1 -1 3/7", "b 1 1 0 2/7", "b 1 2 -1 2/7", "b 2 1 -1 1",
        )
        for length in (3, 5):
            self.check(house, length)

    def test_too_many_vectors(self):
        self.assertEqual(len(closed_weights(SWAP, (1, 2), 2, 2)), 2)
        refused(self, TooMany, closed_weights, SWAP, (1, 2), 2, 1, limit=1)

    def test_weights_of_at_most_sixty_digits(self):
        part = Fraction(1, 10 ** 9 + 7)
        house = House(purse(Fraction(1, 10) - part, Fraction(3, 4) - part, Fraction(1, 2) - part))
        self.assertGreater(max(ceiling(house, 12)), 10 ** 60)
        weights = self.check(house, 12)
        self.assertLess(max(map(abs, integers_in(weights))), 10 ** 60)
        part = Fraction(1, 10 ** 24 + 7)
        house = House(purse(Fraction(1, 10) - part, Fraction(3, 4) - part, Fraction(1, 2) - part))
        weights = self.check(house, 12)
        self.assertLess(max(map(abs, integers_in(weights))), 10 ** 60)

    def test_other_papers(self):
        for bound in ((0, 1), (1, LONGEST), (1, 4), (99, 1)):
            self.assertIs(is_above_paper(SEE, (bound, TWO)), True)
        for bound in ((-1, LONGEST), (-1, 4), (-99, 1)):
            self.assertIs(is_above_paper(SEE, (bound, TWO)), False)
        far = Weights(SEE, TWO).raised((1000, 7)).vectors
        self.assertIs(is_above_paper(SEE, ((0, 1), far)), True)
        more = tuple(sorted(TWO + (ZERO, ((-9, 1), (-9, 1)))))
        self.assertIs(is_above_paper(SEE, ((0, 1), more)), True)
        more = tuple(sorted(TWO + (((5, 1), (5, 1)),)))
        self.assertEqual([is_above_paper(SEE, (bound, more)) for bound in ((0, 1), (1, 1))], [False, True])

    def test_bent_papers(self):
        for house in [PAR, SEE] + list(some_houses(77, 20, games=(2,))):
            bound, weights = above_paper(house, 3)
            for at, vector in enumerate(weights):
                for standing in range(house.size):
                    for by in (-2, 2):
                        top, bottom = vector[standing]
                        bent = vector[:standing] + ((top + by * bottom, bottom),) + vector[standing + 1:]
                        others = tuple(sorted(set(weights[:at] + (bent,) + weights[at + 1:])))
                        does = bound_by_definition(house, others) <= Fraction(*bound)
                        self.assertIs(is_above_paper(house, (bound, others)), does)

    def test_other_values(self):
        for value in OTHERS + (0, SEE, ((0, 1),), ((0, 1), TWO, TWO), [(0, 1), TWO], {(0, 1): TWO}, (TWO, (0, 1))):
            self.assertIs(is_above_paper(SEE, value), False, repr(value)[:80])
        for bound in NOT_FRACTIONS:
            self.assertIs(is_above_paper(SEE, (bound, TWO)), False, repr(bound)[:80])
        for weights in NOT_WEIGHTS + (many_vectors(201),):
            self.assertIs(is_above_paper(SEE, ((99, 1), weights)), False, repr(weights)[:80])
        self.assertIs(is_above_paper(SEE, ((99, 1), many_vectors(200))), True)


class Sets(unittest.TestCase):
    def each(self, seed, many=60):
        """Sets of weights of some houses."""
        for at, house in enumerate(some_houses(seed, many)):
            yield Weights(house, some_weights(at, house.size))

    def test_properties(self):
        for one in self.each(81):
            self.assertEqual(one.bound, bound_of(one.house, one.vectors))
        one = Weights(SEE, TWO)
        self.assertEqual((one.house, one.vectors, one.bound), (SEE, TWO, (0, 1)))

    def test_lean(self):
        for one in self.each(82):
            kept = []
            for vector in one.vectors:
                others = [other for other in one.vectors if other != vector]
                if not any(all(a <= b for a, b in zip(numbers(vector), numbers(other))) for other in others):
                    kept.append(vector)
            self.assertEqual(one.lean().vectors, tuple(kept))
            self.assertLessEqual(Fraction(*one.lean().bound), Fraction(*one.bound))
        self.assertEqual(Weights(SWAP, many_vectors(200)).lean().vectors, (((199, 1), (199, 1)),))

    def test_raised(self):
        for one in self.each(83):
            for more in ((0, 1), (-1, 3), (7, 2)):
                other = one.raised(more)
                found = sorted(pairs(number + Fraction(*more) for number in numbers(vector)) for vector in one.vectors)
                self.assertEqual((other.vectors, other.bound), (tuple(found), one.bound))
        for more in NOT_FRACTIONS:
            refused(self, InvalidFraction, Weights(SEE, TWO).raised, more)

    def test_raised_in_another_order(self):
        one = Weights(SEE, (((1, 1), (0, 1)), ((4, 3), (0, 1))))
        self.assertEqual(one.raised((1, 3)).vectors, (((4, 3), (1, 3)), ((5, 3), (1, 3))))
        self.assertEqual(one.raised((-1, 3)).vectors, (((1, 1), (-1, 3)), ((2, 3), (-1, 3))))

    def test_step(self):
        for one in self.each(84):
            for name in one.house:
                found = {led_back(one.house, name, vector) for vector in one.vectors}
                self.assertEqual(one.step(name).vectors, tuple(sorted(found)))
        one = Weights(SWAP, (((0, 1), (0, 1)), ((0, 1), (5, 1)))).step("d")
        self.assertEqual(one.vectors, (((0, 1), (0, 1)),))
        for name in NOT_NAMES:
            refused(self, UnknownGame, Weights(SWAP, (ZERO,)).step, name, asked=name)

    def test_follows(self):
        for one in self.each(85):
            for name in one.house:
                for index, vector in enumerate(one.vectors):
                    led = led_back_by(one.house, name, numbers(vector))
                    far = [max(a - b for a, b in zip(led, numbers(other))) for other in one.vectors]
                    self.assertEqual(one.follows(name, index), far.index(min(far)))
        one = Weights(SWAP, (ZERO, ((0, 1), (9, 1))))
        self.assertEqual(one.follows("d", 0), 0)
        for name in NOT_NAMES:
            refused(self, UnknownGame, one.follows, name, None, asked=name)
        for index in NOT_STANDINGS:
            refused(self, InvalidNumber, one.follows, "c", index, number=index)

    def test_both(self):
        one, other = Weights(SEE, (ZERO, TWO[1])), Weights(House(SEE_GAMES), TWO)
        self.assertEqual((one | other).vectors, tuple(sorted(TWO + (ZERO,))))
        self.assertEqual((one | other), (other | one))
        self.assertEqual((one.vectors, other.vectors), ((ZERO, TWO[1]), TWO))
        for wrong in OTHERS + (0, TWO, SEE, Weights(SWAP, TWO), Weights(SEE.turned().paid("e", 1), TWO)):
            refused(self, InvalidOperation, one.__or__, wrong)
        many = Weights(SEE, many_vectors(200))
        self.assertEqual(len(many | many), 200)
        self.assertEqual(len(Weights(SEE, many_vectors(199)) | one), 200)
        refused(self, InvalidWeights, many.__or__, one)

    def test_as_a_sequence(self):
        one = Weights(SEE, TWO)
        self.assertEqual([len(one), list(one), one[0], one[1]], [2, list(TWO), TWO[0], TWO[1]])
        self.assertEqual([TWO[0] in one, ZERO in one], [True, False])
        for vector in NOT_VECTORS:
            self.assertNotIn(vector, one)
        self.assertNotIn(((-1, True), (True, 1)), one)
        for index in NOT_STANDINGS:
            refused(self, InvalidNumber, one.__getitem__, index, number=index)

    def test_equal_sets(self):
        one = Weights(SEE, TWO)
        self.assertEqual(one, Weights(House(SEE_GAMES), TWO))
        self.assertFalse(one != Weights(House(SEE_GAMES), TWO))
        for other in OTHERS + (TWO, SEE, Weights(SEE, (ZERO,)), Weights(SWAP, TWO)):
            self.assertIs(one == other, False)
            self.assertIs(one != other, True)

    def test_texts(self):
        self.assertEqual(str(Weights(SEE, (ZERO,))), "1 vectors, 1/1")
        self.assertEqual(str(Weights(SWAP, (((0, 1), (1, 2)),))), "1 vectors, 3/2")
        self.assertEqual(str(Weights(SWAP.paid("c", -5).paid("d", -5), (ZERO,))), "1 vectors, -4/1")


if __name__ == "__main__":
    unittest.main()
