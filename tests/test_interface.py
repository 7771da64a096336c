"""The interface of the document: each name stands in its module, each method in its class, each constant has its value."""

import importlib
import inspect
import unittest

import wonbyturns

CONSTANTS = {
    "base.words": {"MAX_LETTERS": 8, "MAX_DIGITS": 300},
    "base.houses": {"MAX_GAMES": 4, "MAX_STANDINGS": 8, "MAX_MOVES": 12, "MAX_GAIN": 99},
    "play.rows": {"MAX_TURNS": 12},
    "above.weights": {"MAX_VECTORS": 200, "MAX_LENGTH": 12},
    "above.best": {"MAX_ROWS": 5000},
    "free.policies": {"MAX_POLICIES": 5000},
    "free.controllers": {"MAX_STATES": 4, "MAX_TRIED": 5000},
    "lots.mixes": {"MAX_DEGREE": 12},
    "purse.games": {"MAX_RESTS": 8, "MAX_LAST": 3},
    "wide.stretches": {"MAX_ALTERNATIVES": 3},
    "use.project": {"MAX_PINS": 20, "MAX_SEARCH": 5},
    "text.texts": {"NOTHING": "-"},
}

# The functions with their arguments, by modules.
FUNCTIONS = {
    "base.words": "is_integer(value) is_word(value) is_fraction(value) is_chance(value) is_vector(value,size)",
    "base.ratios": "added(pairs) mean(pairs,chances) in_order(pairs) least(pairs) greatest(pairs)",
    "base.linear": "solved(rows)",
    "base.houses": "is_game(value) merged_moves(moves)",
    "play.rows": "is_row(house,value) row_places(house,row,standing) row_chances(house,row,standing)"
                 " row_total(house,row,standing) row_totals(house,row) row_gains(house,row,standing)",
    "play.rounds": "homes(house,row) shares(house,row,home) home_chances(house,row,standing) long_runs(house,row)"
                   " long_run(house,row,standing) run_paper(house,row) is_run_paper(house,row,value)",
    "play.mixing": "do_meet(house,turns,one,other) is_mixing(house) mixing_length(house) mixing_paper(house)"
                   " is_mixing_paper(house,value) apart_pairs(house,length)",
    "above.weights": "is_weight_vector(house,value) is_weights(house,value) led_back(house,name,vector)"
                     " lies_below(house,one,other) closing_bound(house,weights) does_close(house,bound,weights)"
                     " greatest_total(house,length) ceiling(house,length) greatest_row(house,length)"
                     " weights_of(house,length) above_paper(house,length) is_above_paper(house,value)",
    "above.best": "rows_upto(house,most) top_run(house,most,standing) best_row(house,most,standing)"
                  " winning_rows(house,most,standing) fewest_turns(house,most,standing)"
                  " won_by_turns(house,most,standing) turns_paper(house,most,standing)"
                  " is_turns_paper(house,standing,value) pin(house,most,standing) is_pin(house,standing,value)",
    "free.policies": "is_policy(house,value) policy_runs(house,policy) policy_homes(house,policy)"
                     " policy_paper(house,policy) is_policy_paper(house,policy,value) best_runs(house)"
                     " best_run(house,standing) free_paper(house) is_free_paper(house,value) improved(house,policy)"
                     " best_policies(house) worth_of_seeing(house,row)",
    "free.controllers": "is_controller(house,value) row_controller(house,row) controller_runs(house,controller)"
                        " controller_paper(house,controller) is_controller_paper(house,controller,value)"
                        " game_behind(house,controller,sight) parting_sight(house,one,other)"
                        " are_alike(house,one,other) least_controller(house,controller) is_least(house,controller)"
                        " best_controller(house,states,standing)",
    "lots.mixes": "is_lot(house,value) mixed_game(house,lot) lot_runs(house,lot) is_polynomial(value)"
                  " value_at(polynomial,x) roots_between(polynomial,low,high) quotient(house,first,second)"
                  " is_quotient(house,first,second,value) mix_signs(house,first,second)"
                  " are_mix_signs(house,first,second,signs) winning_mix(house,first,second)"
                  " mix_paper(house,first,second) is_mix_paper(house,first,second,value)",
    "purse.games": "is_purse(ups,downs) purse_game(ups,downs) ups_of(game) products(ups,downs) verdict(ups,downs)"
                   " slope(ups,downs) slope_paper(ups,downs) is_slope_paper(ups,downs,value)"
                   " blended(one,other,share) by_rests(ups,downs,many) history_game(ups) parrondo(less)"
                   " parrondo_by_history(less) three_verdicts(low,high,up,share)",
    "wide.stretches": "is_wide_game(value) widened(house) widened_by(house,other) is_choice(wide,row,value)"
                      " chosen_house(wide,row,choice) chosen_row(wide,row) least_runs(wide,row)"
                      " greatest_runs(wide,row) wide_paper(wide,row,side) is_wide_paper(wide,row,side,value)"
                      " surely(wide,row) possibly(wide,row)",
    "text.texts": "write(form,value) read(form,text) is_written(form,value)",
}

# The classes with what they are made of, then their properties, then their methods.
CLASSES = {
    "base.ratios Ratio(top,bottom)": (
        "top bottom pair text sign whole",
        "of(pair) read(text) divided(other) power(exponent) is_below(other) between(other) __add__ __sub__ __mul__"
        " __neg__ __abs__ __eq__ __str__ __bool__",
    ),
    "base.houses House(games)": (
        "games names lines size seen",
        "read(*lines) chance(name,standing,to) gain(name,standing) near(name,standing) gains_of(name)"
        " with_game(name,game) without(*names) renamed(names) reordered(order) paid(name,amount) turned()"
        " blend(name,one,other,share) __or__ __getitem__ __contains__ __len__ __iter__ __eq__ __str__",
    ),
    "play.rows Row(house,names)": (
        "house names sums",
        "table() led_back(vector) later(turns) root() __add__ __mul__ __len__ __getitem__ __iter__ __contains__ __eq__"
        " __str__",
    ),
    "play.rounds Round(house,row)": (
        "house row runs homes turns",
        "begun(turns) again(times) wins(standing) with_round(other) __len__ __iter__ __contains__ __eq__ __str__",
    ),
    "above.weights Weights(house,vectors)": (
        "house vectors bound",
        "lean() raised(fraction) step(name) follows(name,index) __or__ __contains__ __len__ __getitem__ __iter__ __eq__"
        " __str__",
    ),
    "above.best Best(house,most,standing)": (
        "house most standing top row by_turns",
        "run_of(row) ahead(row) alike(row) __contains__ __len__ __iter__ __eq__ __str__",
    ),
    "free.policies Chooser(house,policy)": (
        "house policy runs",
        "game(standing) with_game(standing,name) is_best() better() __len__ __iter__ __contains__ __eq__ __str__",
    ),
    "lots.mixes Mix(house,first,second)": (
        "house names signs",
        "at(p) wins(p) turned() lot(p) __len__ __eq__ __str__",
    ),
    "wide.stretches WideHouse(games)": (
        "games names standings widths",
        "played(picks) tight() with_alternative(name,standing,moves) __getitem__ __len__ __iter__ __contains__ __eq__"
        " __str__",
    ),
    "use.project Project(house)": (
        "house pins depth news",
        "put(name,game) drop(name) rename(names) pay(name,amount) mix(name,one,other,share) pin(saying) unpin(saying)"
        " holds(saying) undo(many) redo(many) alone() losing() winner(most) __len__ __iter__ __contains__ __eq__ __str__",
    ),
    "text.shell Shell()": (
        "house kept",
        "run(line) run_all(*lines) __len__ __iter__ __eq__ __str__",
    ),
}

ERRORS = {
    "GameError": ValueError,
    "UnknownGame": KeyError,
    "NoRow": LookupError,
    "NothingToUndo": IndexError,
    "TooMany": OverflowError,
    "Refused": ArithmeticError,
    "InvalidNumber": RuntimeError,
}
GAME_ERRORS = (
    "InvalidWord InvalidFraction InvalidGame InvalidHouse InvalidRow InvalidWeights InvalidPolicy InvalidController"
    " InvalidLot InvalidOperation ParseError"
)


def module_of(name):
    """A module of the package."""
    return importlib.import_module(f"wonbyturns.{name}")


def arguments_of(call):
    """The names of the arguments of a call, one behind the other."""
    signs = inspect.signature(call).parameters.values()
    stars = {inspect.Parameter.VAR_POSITIONAL: "*"}
    return ",".join(stars.get(one.kind, "") + one.name for one in signs if one.name not in ("self", "cls"))


class Interface(unittest.TestCase):
    def test_constants(self):
        for name, constants in CONSTANTS.items():
            for constant, value in constants.items():
                found = getattr(module_of(name), constant)
                self.assertEqual((found, found.__class__), (value, value.__class__))

    def test_functions(self):
        for name, functions in FUNCTIONS.items():
            for text in functions.split():
                function, arguments = text.removesuffix(")").split("(")
                found = getattr(module_of(name), function)
                self.assertTrue(inspect.isfunction(found))
                self.assertEqual(found.__module__, f"wonbyturns.{name}")
                self.assertEqual(arguments_of(found), arguments, function)

    def test_classes(self):
        for text, (properties, methods) in CLASSES.items():
            name, made = text.removesuffix(")").split(" ")
            word, arguments = made.split("(")
            found = getattr(module_of(name), word)
            self.assertTrue(inspect.isclass(found))
            self.assertEqual(found.__module__, f"wonbyturns.{name}")
            self.assertEqual(arguments_of(found), arguments)
            for one in properties.split():
                self.assertIsInstance(vars(found)[one], property)
            for one in methods.split():
                method, _, wanted = one.removesuffix(")").partition("(")
                self.assertIn(method, vars(found), word)
                if "(" in one:
                    self.assertEqual(arguments_of(getattr(found, method)), wanted, one)

    def test_default_values(self):
        ratio, project = module_of("base.ratios").Ratio, module_of("use.project").Project
        self.assertEqual(inspect.signature(ratio).parameters["bottom"].default, 1)
        self.assertEqual(inspect.signature(project.undo).parameters["many"].default, 1)
        self.assertEqual(inspect.signature(project.redo).parameters["many"].default, 1)

    def test_errors(self):
        errors = module_of("errors")
        for name, base in ERRORS.items():
            self.assertEqual(getattr(errors, name).__bases__, (base,))
        for name in GAME_ERRORS.split():
            self.assertEqual(getattr(errors, name).__bases__, (errors.GameError,))

    def test_class_methods(self):
        for name, word, method in (("base.ratios", "Ratio", "of"), ("base.ratios", "Ratio", "read"), ("base.houses", "House", "read")):
            self.assertIsInstance(vars(getattr(module_of(name), word))[method], classmethod)

    def test_no_file_has_the_name_of_what_the_package_binds(self):
        self.assertEqual([name for name in vars(wonbyturns) if not name.startswith("_") and name.islower() and
                          not inspect.ismodule(vars(wonbyturns)[name])], [])


if __name__ == "__main__":
    unittest.main()
