"""The conventions [0.1] to [0.6], over the whole program: each function and each method is called in the same way."""

import copy
import inspect
import unittest

import test_interface
from reference import SEE_GAMES, SWAP_GAMES, integers_in
from samples import LONGEST, NOT_FRACTIONS, NOT_INTEGERS, OTHERS, TOO_LONG, VERY_LONG
from wonbyturns import errors as module
from wonbyturns.above import best, weights
from wonbyturns.above.best import Best
from wonbyturns.above.weights import Weights
from wonbyturns.base import houses, linear, ratios, words
from wonbyturns.base.houses import House
from wonbyturns.base.ratios import Ratio
from wonbyturns.errors import (
    InvalidController,
    InvalidFraction,
    InvalidGame,
    InvalidHouse,
    InvalidLot,
    InvalidNumber,
    InvalidOperation,
    InvalidPolicy,
    InvalidRow,
    InvalidWeights,
    InvalidWord,
    NothingToUndo,
    ParseError,
    UnknownGame,
)
from wonbyturns.free import controllers, policies
from wonbyturns.free.policies import Chooser
from wonbyturns.lots import mixes
from wonbyturns.lots.mixes import Mix
from wonbyturns.play import mixing, rounds, rows
from wonbyturns.play.rounds import Round
from wonbyturns.play.rows import Row
from wonbyturns.purse import games as purses
from wonbyturns.purse.games import parrondo
from wonbyturns.text import texts
from wonbyturns.text.shell import Shell
from wonbyturns.use.project import Project
from wonbyturns.wide import stretches
from wonbyturns.wide.stretches import WideHouse, widened_by

SWAP = House(SWAP_GAMES)
SEE = House(SEE_GAMES)
PAR = parrondo((1, 200))
WIDE = widened_by(SEE, SEE.turned())
ZERO = ((0, 1), (0, 1))
HALVES = ((1, 2), (1, 2))
TWO = (((-1, 1), (1, 1)), ((1, 1), (-1, 1)))
SEER = (("c", {-1: 0, 1: 1}), ("d", {0: 0}))
MOVES = ((0, 0, (1, 2)), (1, 0, (1, 2)))

# Arguments that are right and wrong, with the error for the wrong ones.
A_HOUSE = (SWAP, 0, InvalidHouse)
A_ROW = (("c", "d"), ("x",), InvalidRow)
A_NAME = ("c", "x", UnknownGame)
A_STANDING = (1, 2, InvalidNumber)
A_LENGTH = (3, 13, InvalidNumber)
A_VECTOR = (ZERO, ((0, 1),), InvalidWeights)
A_FRACTION = ((1, 2), (2, 4), InvalidFraction)
A_CHANCE = ((1, 2), (3, 2), InvalidFraction)
A_POLICY = (("c", "d"), ("c",), InvalidPolicy)
A_CONTROLLER = (SEER, (), InvalidController)
SEEN = (SEE, 0, InvalidHouse)
FIRST = ("e", "x", UnknownGame)
SECOND = ("f", "x", UnknownGame)
A_PURSE = ((HALVES, 0, InvalidGame), (HALVES, 0, InvalidGame))
A_WIDE_HOUSE = (WIDE, 0, InvalidHouse)
A_WIDE_ROW = (("e", "f"), ("x",), InvalidRow)
A_CHOICE = (((0, 1), (1, 0)), (), InvalidOperation)
A_FORM = ("lot", "word", InvalidWord)
JUDGED = (None, None, None)

FUNCTIONS = (
    (words.is_integer, JUDGED),
    (words.is_word, JUDGED),
    (words.is_fraction, JUDGED),
    (words.is_chance, JUDGED),
    (words.is_vector, JUDGED, (2, -1, InvalidNumber)),
    (ratios.added, (ZERO, [], InvalidFraction)),
    (ratios.mean, (ZERO, [], InvalidFraction), (HALVES, (), InvalidFraction)),
    (ratios.in_order, (ZERO, [], InvalidFraction)),
    (ratios.least, (ZERO, [], InvalidFraction)),
    (ratios.greatest, (ZERO, (), InvalidOperation)),
    (linear.solved, ((((1, 1), (2, 1)),), (), InvalidOperation)),
    (houses.is_game, JUDGED),
    (houses.merged_moves, (MOVES, (), InvalidGame)),
    (rows.is_row, A_HOUSE, JUDGED),
    (rows.row_places, A_HOUSE, A_ROW, A_STANDING),
    (rows.row_chances, A_HOUSE, A_ROW, A_STANDING),
    (rows.row_total, A_HOUSE, A_ROW, A_STANDING),
    (rows.row_totals, A_HOUSE, A_ROW),
    (rows.row_gains, A_HOUSE, A_ROW, A_STANDING),
    (rounds.homes, A_HOUSE, A_ROW),
    (rounds.shares, A_HOUSE, A_ROW, ((0,), (1,), InvalidOperation)),
    (rounds.home_chances, A_HOUSE, A_ROW, A_STANDING),
    (rounds.long_runs, A_HOUSE, A_ROW),
    (rounds.long_run, A_HOUSE, A_ROW, A_STANDING),
    (rounds.run_paper, A_HOUSE, A_ROW),
    (rounds.is_run_paper, A_HOUSE, A_ROW, JUDGED),
    (mixing.do_meet, A_HOUSE, (("c",), ("x",), InvalidRow), A_STANDING, A_STANDING),
    (mixing.is_mixing, A_HOUSE),
    (mixing.mixing_length, A_HOUSE),
    (mixing.mixing_paper, A_HOUSE),
    (mixing.is_mixing_paper, A_HOUSE, JUDGED),
    (mixing.apart_pairs, A_HOUSE, (3, -1, InvalidNumber)),
    (weights.is_weight_vector, A_HOUSE, JUDGED),
    (weights.is_weights, A_HOUSE, JUDGED),
    (weights.led_back, A_HOUSE, A_NAME, A_VECTOR),
    (weights.lies_below, A_HOUSE, A_VECTOR, A_VECTOR),
    (weights.closing_bound, A_HOUSE, (TWO, (), InvalidWeights)),
    (weights.does_close, A_HOUSE, A_FRACTION, (TWO, (), InvalidWeights)),
    (weights.greatest_total, A_HOUSE, A_LENGTH),
    (weights.ceiling, A_HOUSE, A_LENGTH),
    (weights.greatest_row, A_HOUSE, A_LENGTH),
    (weights.weights_of, A_HOUSE, A_LENGTH),
    (weights.above_paper, A_HOUSE, A_LENGTH),
    (weights.is_above_paper, A_HOUSE, JUDGED),
    (best.rows_upto, A_HOUSE, A_LENGTH),
    (best.top_run, A_HOUSE, A_LENGTH, A_STANDING),
    (best.best_row, A_HOUSE, A_LENGTH, A_STANDING),
    (best.winning_rows, A_HOUSE, A_LENGTH, A_STANDING),
    (best.fewest_turns, A_HOUSE, A_LENGTH, A_STANDING),
    (best.won_by_turns, A_HOUSE, A_LENGTH, A_STANDING),
    (best.turns_paper, A_HOUSE, A_LENGTH, A_STANDING),
    (best.is_turns_paper, A_HOUSE, A_STANDING, JUDGED),
    (best.pin, A_HOUSE, A_LENGTH, A_STANDING),
    (best.is_pin, A_HOUSE, A_STANDING, JUDGED),
    (policies.is_policy, A_HOUSE, JUDGED),
    (policies.policy_runs, A_HOUSE, A_POLICY),
    (policies.policy_homes, A_HOUSE, A_POLICY),
    (policies.policy_paper, A_HOUSE, A_POLICY),
    (policies.is_policy_paper, A_HOUSE, A_POLICY, JUDGED),
    (policies.best_runs, A_HOUSE),
    (policies.best_run, A_HOUSE, A_STANDING),
    (policies.free_paper, A_HOUSE),
    (policies.is_free_paper, A_HOUSE, JUDGED),
    (policies.improved, A_HOUSE, A_POLICY),
    (policies.best_policies, A_HOUSE),
    (policies.worth_of_seeing, A_HOUSE, A_ROW),
    (controllers.is_controller, A_HOUSE, JUDGED),
    (controllers.row_controller, A_HOUSE, A_ROW),
    (controllers.controller_runs, A_HOUSE, A_CONTROLLER),
    (controllers.controller_paper, A_HOUSE, A_CONTROLLER),
    (controllers.is_controller_paper, A_HOUSE, A_CONTROLLER, JUDGED),
    (controllers.game_behind, A_HOUSE, A_CONTROLLER, ((1, 0), (2,), InvalidOperation)),
    (controllers.parting_sight, A_HOUSE, A_CONTROLLER, A_CONTROLLER),
    (controllers.are_alike, A_HOUSE, A_CONTROLLER, A_CONTROLLER),
    (controllers.least_controller, A_HOUSE, A_CONTROLLER),
    (controllers.is_least, A_HOUSE, A_CONTROLLER),
    (controllers.best_controller, A_HOUSE, (2, 5, InvalidNumber), A_STANDING),
    (mixes.is_lot, A_HOUSE, JUDGED),
    (mixes.mixed_game, A_HOUSE, ({"d": (1, 3), "c": (2, 3)}, {}, InvalidLot)),
    (mixes.lot_runs, A_HOUSE, ({"d": (1, 3), "c": (2, 3)}, {}, InvalidLot)),
    (mixes.is_polynomial, JUDGED),
    (mixes.value_at, ((1, 2), (0,), InvalidOperation), A_FRACTION),
    (mixes.roots_between, ((1, 2), (), InvalidOperation), A_FRACTION, ((1, 1), (2, 4), InvalidFraction)),
    (mixes.quotient, SEEN, FIRST, SECOND),
    (mixes.is_quotient, SEEN, FIRST, SECOND, JUDGED),
    (mixes.mix_signs, SEEN, FIRST, SECOND),
    (mixes.are_mix_signs, SEEN, FIRST, SECOND, JUDGED),
    (mixes.winning_mix, (SEE.paid("e", 1), 0, InvalidHouse), FIRST, SECOND),
    (mixes.mix_paper, SEEN, FIRST, SECOND),
    (mixes.is_mix_paper, SEEN, FIRST, SECOND, JUDGED),
    (purses.purse_game,) + A_PURSE,
    (purses.ups_of, (PAR["a"], (), InvalidGame)),
    (purses.products,) + A_PURSE,
    (purses.verdict,) + A_PURSE,
    (purses.slope,) + A_PURSE,
    (purses.slope_paper,) + A_PURSE,
    (purses.is_slope_paper,) + A_PURSE + (JUDGED,),
    (purses.blended, ((HALVES, HALVES), HALVES, InvalidGame), ((HALVES, HALVES), (), InvalidGame), A_CHANCE),
    (purses.by_rests,) + A_PURSE + ((2, 0, InvalidNumber),),
    (purses.history_game, (HALVES, (), InvalidGame)),
    (purses.parrondo, ((1, 11), (1, 10), InvalidFraction)),
    (purses.parrondo_by_history, ((1, 11), (1, 10), InvalidFraction)),
    (purses.three_verdicts,) + (((1, 2), (1, 1), InvalidFraction),) * 3 + (A_CHANCE,),
    (stretches.is_wide_game, JUDGED),
    (stretches.widened, A_HOUSE),
    (stretches.widened_by, A_HOUSE, A_HOUSE),
    (stretches.is_choice, A_WIDE_HOUSE, A_WIDE_ROW, JUDGED),
    (stretches.chosen_house, A_WIDE_HOUSE, A_WIDE_ROW, A_CHOICE),
    (stretches.chosen_row, A_WIDE_HOUSE, A_WIDE_ROW),
    (stretches.least_runs, A_WIDE_HOUSE, A_WIDE_ROW),
    (stretches.greatest_runs, A_WIDE_HOUSE, A_WIDE_ROW),
    (stretches.wide_paper, A_WIDE_HOUSE, A_WIDE_ROW, ("least", "most", InvalidOperation)),
    (stretches.is_wide_paper, A_WIDE_HOUSE, A_WIDE_ROW, ("least", "most", InvalidOperation), JUDGED),
    (stretches.surely, A_WIDE_HOUSE, A_WIDE_ROW),
    (stretches.possibly, A_WIDE_HOUSE, A_WIDE_ROW),
    (texts.write, A_FORM, ({"b": (1, 2), "a": (0, 1)}, {}, InvalidOperation)),
    (texts.read, A_FORM, ("a:1 b:2", "b:1 a:2", ParseError)),
    (texts.is_written, A_FORM, JUDGED),
    (House, (SWAP_GAMES, {}, InvalidHouse)),
    (Ratio, (1, None, InvalidFraction), (2, None, InvalidFraction)),
    (Ratio, (1, None, InvalidFraction), (2, 0, InvalidFraction)),
    (Row, A_HOUSE, A_ROW),
    (Round, A_HOUSE, A_ROW),
    (Weights, A_HOUSE, (TWO, (), InvalidWeights)),
    (Best, A_HOUSE, A_LENGTH, A_STANDING),
    (Chooser, A_HOUSE, A_POLICY),
    (Mix, SEEN, FIRST, SECOND),
    (WideHouse, (WIDE.games, {}, InvalidHouse)),
    (Project, A_HOUSE),
)

A_GAME = (SEE["e"], (), InvalidGame)
A_NEW_NAME = ("m", "M", InvalidWord)
PINNED = ("least", ("c", "d"), (1, 2))

# Objects, each made anew for a call, with the calls of its methods.
METHODS = (
    (lambda: House(SWAP_GAMES), "chance", A_NAME, A_STANDING, A_STANDING),
    (lambda: House(SWAP_GAMES), "gain", A_NAME, A_STANDING),
    (lambda: House(SWAP_GAMES), "near", A_NAME, A_STANDING),
    (lambda: House(SWAP_GAMES), "gains_of", A_NAME),
    (lambda: House(SWAP_GAMES), "with_game", A_NEW_NAME, A_GAME),
    (lambda: House(SWAP_GAMES), "without", A_NAME),
    (lambda: House(SWAP_GAMES), "renamed", ({"d": "x", "c": "y"}, {}, InvalidOperation)),
    (lambda: House(SWAP_GAMES), "reordered", ((1, 0), (0,), InvalidOperation)),
    (lambda: House(SWAP_GAMES), "paid", A_NAME, (3, 100, InvalidNumber)),
    (lambda: House(SWAP_GAMES), "turned"),
    (lambda: House(SWAP_GAMES), "blend", A_NEW_NAME, A_NAME, A_NAME, A_CHANCE),
    (lambda: House(SWAP_GAMES), "__getitem__", A_NAME),
    (lambda: House(SWAP_GAMES), "__or__", (SEE, PAR, InvalidOperation)),
    (lambda: House, "read", ("c 0 0 0 1", "c 0 0 0 2", ParseError)),
    (lambda: Ratio, "of", A_FRACTION),
    (lambda: Ratio, "read", ("1/2", "2/4", ParseError)),
    (lambda: Ratio(1, 2), "__add__", (Ratio(1), None, InvalidOperation)),
    (lambda: Ratio(1, 2), "__sub__", (3, True, InvalidOperation)),
    (lambda: Ratio(1, 2), "__mul__", (3, "3", InvalidOperation)),
    (lambda: Ratio(1, 2), "divided", (3, 0, InvalidOperation)),
    (lambda: Ratio(1, 2), "power", (3, 31, InvalidOperation)),
    (lambda: Ratio(1, 2), "is_below", (3, None, InvalidOperation)),
    (lambda: Ratio(1, 2), "between", (Ratio(3), 3, InvalidOperation)),
    (lambda: Row(SWAP, ("c", "d")), "table"),
    (lambda: Row(SWAP, ("c", "d")), "led_back", A_VECTOR),
    (lambda: Row(SWAP, ("c", "d")), "later", (3, -1, InvalidNumber)),
    (lambda: Row(SWAP, ("c", "d")), "root"),
    (lambda: Row(SWAP, ("c", "d")), "__add__", (Row(SWAP, ("c",)), ("c",), InvalidOperation)),
    (lambda: Row(SWAP, ("c", "d")), "__mul__", (3, 0, InvalidOperation)),
    (lambda: Row(SWAP, ("c", "d")), "__getitem__", (1, 2, InvalidNumber)),
    (lambda: Round(SWAP, ("c", "d")), "begun", (1, 3, InvalidNumber)),
    (lambda: Round(SWAP, ("c", "d")), "again", (3, 0, InvalidNumber)),
    (lambda: Round(SWAP, ("c", "d")), "wins", A_STANDING),
    (lambda: Round(SWAP, ("c", "d")), "with_round", (Round(SWAP, ("c",)), None, InvalidOperation)),
    (lambda: Weights(SEE, TWO), "lean"),
    (lambda: Weights(SEE, TWO), "raised", A_FRACTION),
    (lambda: Weights(SEE, TWO), "step", FIRST),
    (lambda: Weights(SEE, TWO), "follows", FIRST, (1, 2, InvalidNumber)),
    (lambda: Weights(SEE, TWO), "__or__", (Weights(SEE, (ZERO,)), TWO, InvalidOperation)),
    (lambda: Weights(SEE, TWO), "__getitem__", (1, 2, InvalidNumber)),
    (lambda: Best(SWAP, 2, 0), "run_of", A_ROW),
    (lambda: Best(SWAP, 2, 0), "ahead", A_ROW),
    (lambda: Best(SWAP, 2, 0), "alike", A_ROW),
    (lambda: Chooser(SWAP, ("c", "d")), "game", A_STANDING),
    (lambda: Chooser(SWAP, ("c", "d")), "with_game", A_STANDING, A_NAME),
    (lambda: Chooser(SWAP, ("c", "d")), "is_best"),
    (lambda: Chooser(SWAP, ("d", "d")), "better"),
    (lambda: Mix(SEE, "e", "f"), "at", A_CHANCE),
    (lambda: Mix(SEE, "e", "f"), "wins", A_CHANCE),
    (lambda: Mix(SEE, "e", "f"), "turned"),
    (lambda: Mix(SEE, "f", "e"), "lot", A_CHANCE),
    (lambda: WideHouse(WIDE.games), "played", ({"f": (1, 0), "e": (0, 1)}, {}, InvalidOperation)),
    (lambda: WideHouse(WIDE.games), "tight"),
    (lambda: WideHouse(WIDE.games), "with_alternative", FIRST, A_STANDING, (MOVES, (), InvalidHouse)),
    (lambda: WideHouse(WIDE.games), "__getitem__", FIRST),
    (lambda: project(), "put", A_NEW_NAME, A_GAME),
    (lambda: project(), "drop", ("m", "x", UnknownGame)),
    (lambda: project(), "rename", ({"d": "d", "c": "c", "m": "e"}, {}, InvalidOperation)),
    (lambda: project(), "pay", ("m", "x", UnknownGame), (3, 100, InvalidNumber)),
    (lambda: project(), "mix", A_NEW_NAME, A_NAME, A_NAME, A_CHANCE),
    (lambda: project(), "pin", (("free", (0, 1)), ("free",), InvalidOperation)),
    (lambda: project(), "unpin", (PINNED, ("mixes",), InvalidOperation)),
    (lambda: project(), "holds", (("wins", ("c",)), ("wins", ("x",)), UnknownGame)),
    (lambda: project(), "undo", (1, 3, NothingToUndo)),
    (lambda: project(), "redo", (1, -1, InvalidNumber)),
    (lambda: project(), "alone"),
    (lambda: project(), "losing"),
    (lambda: project(), "winner", (2, 6, InvalidNumber)),
    (lambda: Shell(), "run", ("show", 0, InvalidOperation)),
    (lambda: Shell(), "run_all", ("show", 0, InvalidOperation), ("show", 0, InvalidOperation)),
)

# Functions that give their results one by one.
GENERATORS = (best.rows_upto, best.winning_rows)

ITERATED = (
    SWAP,
    Row(SWAP, ("c", "d")),
    Round(SWAP, ("c", "d")),
    Weights(SEE, TWO),
    Best(SWAP, 2, 0),
    Chooser(SWAP, ("c", "d")),
    WIDE,
    Project(SWAP),
    Shell(),
)
OBJECTS = ITERATED + (Ratio(1, 2), Mix(SEE, "e", "f"))


def project():
    """A project with a pin, and with a change that can be taken back and one that can be made again."""
    made = Project(SWAP)
    made.put("m", SEE["e"])
    made.pay("m", 1)
    made.undo()
    made.pin(PINNED)
    return made


def called(call, arguments):
    """What a call returns; a list of what a generator gives."""
    found = call(*arguments)
    return list(found) if call in GENERATORS else found


def told(value):
    """All that a value tells, objects by their texts and properties."""
    if isinstance(value, dict):
        return {key: told(value[key]) for key in value}, list(value)
    if isinstance(value, (list, tuple)):
        return [told(part) for part in value] + [value.__class__]
    if value is None or isinstance(value, (int, str)):
        return value, value.__class__
    names = [name for name, found in vars(value.__class__).items() if isinstance(found, property)]
    return str(value), [told(getattr(value, name)) for name in names if name not in ("house",)]


def parts(value):
    """All values in a value."""
    yield value
    if isinstance(value, dict):
        for key in value:
            yield from parts(key)
            yield from parts(value[key])
    elif isinstance(value, (list, tuple)):
        for part in value:
            yield from parts(part)


def right(kinds):
    """The right arguments of these kinds."""
    return [kind[0] for kind in kinds]


class Calls(unittest.TestCase):
    def each_call(self):
        """All calls with the kinds of their arguments."""
        for function, *kinds in FUNCTIONS:
            yield (lambda function=function: function), kinds
        for made, name, *kinds in METHODS:
            yield (lambda made=made, name=name: getattr(made(), name)), kinds

    def test_each_function_and_each_class_is_here(self):
        here = [function for function, *_ in FUNCTIONS] + [purses.is_purse, Shell]
        for name, functions in test_interface.FUNCTIONS.items():
            for text in functions.split():
                self.assertIn(getattr(test_interface.module_of(name), text.split("(")[0]), here)
        for text in test_interface.CLASSES:
            name, word = text.split("(")[0].split(" ")
            self.assertIn(getattr(test_interface.module_of(name), word), here)

    def test_each_method_is_here(self):
        here = {(made() if inspect.isclass(made()) else made().__class__, name) for made, name, *_ in METHODS}
        for text, (_, methods) in test_interface.CLASSES.items():
            name, word = text.split("(")[0].split(" ")
            for one in methods.split():
                if "(" in one:
                    self.assertIn((getattr(test_interface.module_of(name), word), one.split("(")[0]), here)

    def test_equal_calls_with_equal_results_and_unchanged_arguments(self):
        for made, kinds in self.each_call():
            arguments = right(kinds)
            before = [told(argument) for argument in arguments]
            call = made()
            first = told(called(call, arguments))
            self.assertEqual([told(argument) for argument in arguments], before, call)
            self.assertEqual(told(called(made(), copy.deepcopy(arguments))), first, call)

    def test_results_are_tuples_and_ascending_dicts(self):
        for made, kinds in self.each_call():
            call = made()
            found = call(*right(kinds))
            if call in GENERATORS:
                found = tuple(found)
            for part in parts(found):
                self.assertNotIsInstance(part, (list, set, float, bytes), call)
                if isinstance(part, dict):
                    self.assertEqual(list(part), sorted(part), call)

    def test_results_share_no_state(self):
        for made, kinds in self.each_call():
            call = made()
            arguments = right(kinds)
            wanted = told(called(call, arguments))
            for part in parts(called(made(), arguments)):
                if isinstance(part, dict) and not any(part is given for given in parts(tuple(arguments))):
                    part.clear()
            self.assertEqual(told(called(made(), right(kinds))), wanted, call)

    def test_the_first_error_that_applies(self):
        for made, kinds in self.each_call():
            for at, (_, wrong, error) in enumerate(kinds):
                if error is not None:
                    for behind in (right(kinds[at + 1:]), [kind[1] for kind in kinds[at + 1:]]):
                        call = made()
                        with self.assertRaises(error, msg=(call, at)) as caught:
                            called(call, right(kinds[:at]) + [wrong] + behind)
                        self.assertIs(caught.exception.__class__, error)
                        for name in ("number", "asked", "amount"):
                            self.assertTrue(getattr(caught.exception, name, wrong) in (wrong, "x"), call)

    def test_a_call_with_an_error_has_no_effect(self):
        for made, name, *kinds in METHODS:
            for at, (_, wrong, error) in enumerate(kinds):
                one = made()
                if inspect.isclass(one):
                    continue
                before = told(one)
                with self.assertRaises(error):
                    getattr(one, name)(*(right(kinds[:at]) + [wrong] + right(kinds[at + 1:])))
                self.assertEqual(told(one), before)
                self.assertTrue(one == made() and not one != made())

    def test_generators_raise_their_errors_late(self):
        for call in GENERATORS:
            waiting = call(0, 0) if call is best.rows_upto else call(0, 0, 0)
            with self.assertRaises(InvalidHouse):
                next(waiting)


class Judging(unittest.TestCase):
    def values(self):
        """Values of all kinds."""
        deep = (((((((1,),),),),),),)
        more = (0, -1, LONGEST, TOO_LONG, VERY_LONG, [[]], {1: {2: {}}}, deep, (SWAP, Ratio(1)), ([], {}, "a"), {"a": [1]})
        yield from OTHERS + OBJECTS + more
        for value in OTHERS:
            yield from ((value,), (value, value), (value, value, value), [value], {"c": value, "d": value}, (("c", value),))

    def test_each_value_is_judged(self):
        for function, *kinds in FUNCTIONS:
            if JUDGED in kinds:
                at = kinds.index(JUDGED)
                for value in self.values():
                    arguments = right(kinds[:at]) + [value] + right(kinds[at + 1:])
                    self.assertIn(function(*arguments).__class__, (bool,), function)

    def test_purses(self):
        for value in self.values():
            self.assertIs(purses.is_purse(value, HALVES).__class__, bool)
            self.assertIs(purses.is_purse(HALVES, value).__class__, bool)

    def test_what_is_made_is_judged_right(self):
        for judge, made, arguments in (
            (rounds.is_run_paper, rounds.run_paper, (SWAP, ("c", "d"))),
            (mixing.is_mixing_paper, mixing.mixing_paper, (SWAP,)),
            (mixing.is_mixing_paper, mixing.mixing_paper, (SEE,)),
            (policies.is_policy_paper, policies.policy_paper, (SWAP, ("c", "d"))),
            (policies.is_free_paper, policies.free_paper, (SWAP,)),
            (controllers.is_controller_paper, controllers.controller_paper, (SWAP, SEER)),
            (mixes.is_quotient, mixes.quotient, (PAR, "a", "b")),
            (mixes.are_mix_signs, mixes.mix_signs, (PAR, "a", "b")),
            (mixes.is_mix_paper, mixes.mix_paper, (PAR, "a", "b")),
            (mixes.is_mix_paper, mixes.mix_paper, (SEE, "e", "f")),
            (purses.is_slope_paper, purses.slope_paper, (HALVES, HALVES)),
            (stretches.is_wide_paper, stretches.wide_paper, (WIDE, ("e", "f"), "least")),
            (stretches.is_wide_paper, stretches.wide_paper, (WIDE, ("e", "f"), "greatest")),
        ):
            value = made(*arguments)
            self.assertIs(judge(*arguments, value), True)
            self.assertLess(max(map(abs, integers_in(value)), default=0), 10 ** 60)
            for other in exchanged(value):
                self.assertIs(judge(*arguments, other), False, (judge, other))

    def test_true_is_not_1(self):
        self.assertIs(controllers.is_controller(SWAP, (("c", {-1: 0, True: 0}),)), False)
        self.assertIs(mixes.is_lot(SWAP, {"c": (1, True), "d": (0, 1)}), False)
        self.assertIs(stretches.is_choice(WIDE, ("e",), ((0, True),)), False)
        self.assertIs(texts.is_written("fraction", True), False)


def exchanged(value):
    """All values in which a 1 is True, or a 0 is False, or a tuple is a list."""
    if isinstance(value, int) and value in (0, 1):
        yield bool(value)
    elif isinstance(value, tuple):
        yield list(value)
        for at, part in enumerate(value):
            for other in exchanged(part):
                yield value[:at] + (other,) + value[at + 1:]


class Objects(unittest.TestCase):
    def test_equality_with_every_value(self):
        values = OTHERS + NOT_INTEGERS + NOT_FRACTIONS + OBJECTS + (0, 1, LONGEST)
        for one in OBJECTS:
            for other in values:
                equal = one is other or (one.__class__ is other.__class__ and told(one) == told(other))
                if not equal:
                    self.assertIs(one == other, False)
                    self.assertIs(one != other, True)
                else:
                    self.assertIs(one == other, True)
                    self.assertIs(one != other, False)

    def test_iteration(self):
        for one in ITERATED:
            self.assertEqual(list(one), list(one))
        for one in (Ratio(1, 2), Mix(SEE, "e", "f")):
            with self.assertRaises(TypeError):
                iter(one)
            with self.assertRaises(TypeError):
                list(one)

    def test_membership_of_every_value(self):
        for one in ITERATED:
            if hasattr(one.__class__, "__contains__"):
                for value in OTHERS + OBJECTS + (0, 1, LONGEST):
                    self.assertIs((value in one).__class__, bool)

    def test_no_state_is_shared_with_what_an_object_was_made_of(self):
        games = {name: SWAP_GAMES[name] for name in SWAP_GAMES}
        house = House(games)
        games.clear()
        self.assertEqual(house, SWAP)
        given = WIDE.games
        wide = WideHouse(given)
        given.clear()
        self.assertEqual(wide, WIDE)
        names = {"c": "x", "d": "y"}
        live = Project(SWAP)
        live.rename(names)
        names.clear()
        self.assertEqual(live.house, SWAP.renamed({"c": "x", "d": "y"}))

    def test_errors_keep_what_is_wrong(self):
        for value in OTHERS:
            self.assertIs(module.Refused(value).cause, value)
            self.assertIs(module.ParseError(value).line, value)
            self.assertIs(module.NoRow(value).wanted, value)


if __name__ == "__main__":
    unittest.main()
