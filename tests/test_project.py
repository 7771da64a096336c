"""Stage 14: a live house with pinned sayings."""

import itertools
import random
import unittest
from fractions import Fraction

from reference import (
    SEE_GAMES,
    SWAP_GAMES,
    all_rows,
    chain_runs,
    moves_table,
    numbers,
    pair,
    pairs,
    some_game,
    some_houses,
    three_ways,
)
from samples import LONGEST, NOT_FRACTIONS, NOT_INTEGERS, NOT_NAMES, OTHERS, refused
from wonbyturns.above.best import top_run
from wonbyturns.base.houses import House
from wonbyturns.base.ratios import Ratio
from wonbyturns.errors import (
    InvalidFraction,
    InvalidGame,
    InvalidHouse,
    InvalidNumber,
    InvalidOperation,
    InvalidWord,
    NothingToUndo,
    Refused,
    TooMany,
    UnknownGame,
)
from wonbyturns.free.policies import best_runs
from wonbyturns.play.mixing import is_mixing
from wonbyturns.play.rounds import long_runs
from wonbyturns.purse.games import parrondo
from wonbyturns.use import project as module
from wonbyturns.use.project import Project

SWAP = House(SWAP_GAMES)
SEE = House(SEE_GAMES)
PAR = parrondo((1, 200))
C, D = SWAP_GAMES["c"], SWAP_GAMES["d"]
ONE_STANDING = (((0, 4, (1, 1)),),)
TINY, SMALL = Fraction(1, LONGEST), Fraction(1, 10 ** 200 + 1)
# Its long runs have more than 300 digits.
LONG = (
    ((0, 1, pair(1 - TINY)), (1, 0, pair(TINY))),
    ((0, 1, pair(SMALL)), (1, 0, pair(1 - SMALL))),
)
WRONG_SAYINGS = (
    (),
    ("mixes", 1),
    ("Mixes",),
    ("wins",),
    ("wins", ()),
    ("wins", ["a"]),
    ("wins", "a"),
    ("wins", ("A",)),
    ("wins", ("a", None)),
    ("wins", ("a",) * 13),
    ("wins", ("a",), (0, 1)),
    ("least", ("a",)),
    ("least", ("a",), 0),
    ("least", ("a",), (0, 2)),
    ("least", ("a",), (0, True)),
    ("least", (), (0, 1)),
    ("free",),
    ("free", 0),
    ("free", (2, 4)),
    ("free", (0, 1), (0, 1)),
    ("upto", 0, (0, 1)),
    ("upto", 6, (0, 1)),
    ("upto", True, (0, 1)),
    ("upto", 1, 0),
    ("upto", (1, 1), (0, 1)),
    ("upto", 1),
    (("mixes",),),
    ["mixes"],
    "mixes",
    (None,),
    (["wins"], ("a",)),
)
NOT_SAYINGS = WRONG_SAYINGS + OTHERS + (0, SWAP, Ratio(1))


def state(project):
    """All that a project tells."""
    return (
        project.house.lines, project.pins, project.depth, project.news, len(project), list(project), str(project),
    )


def redoable(project):
    """How many changes can be made again: they are made one by one, and taken back."""
    many = 0
    try:
        while True:
            project.redo()
            many += 1
    except NothingToUndo:
        project.undo(many)
        return many


def row_runs(house, row):
    """The long runs of a row, by the chain of all turns with all standings."""
    size = house.size
    table, gains = [], []
    for at, name in enumerate(row):
        rows, means = moves_table(house[name])
        behind = (at + 1) % len(row)
        table += [[Fraction(0)] * size * behind + one + [Fraction(0)] * size * (len(row) - behind - 1) for one in rows]
        gains += means
    return chain_runs(table, gains)[:size]


def is_true(house, saying):
    """Whether a saying that fits a house is true, by its own words."""
    word = saying[0]
    if word == "mixes":
        return is_mixing(house)
    if word == "wins":
        return all(run > 0 for run in row_runs(house, saying[1]))
    if word == "least":
        return all(run >= Fraction(*saying[2]) for run in row_runs(house, saying[1]))
    if word == "free":
        return all(run >= Fraction(*saying[1]) for run in numbers(best_runs(house)))
    rows = [row for length in range(1, saying[1] + 1) for row in all_rows(house, length)]
    return all(run <= Fraction(*saying[2]) for row in rows for run in numbers(long_runs(house, row)))


def news_of(ahead, behind):
    """The news of a change from one house to another, by their own words."""
    found = []
    for name in sorted(set(ahead) & set(behind)):
        old, new = long_runs(ahead, (name,)), long_runs(behind, (name,))
        if old != new:
            found.append((name, old, new))
    return tuple(found)


class Examples(unittest.TestCase):
    def test_of_the_literature(self):
        project = Project(PAR)
        self.assertEqual(
            [
                project.losing(),
                project.holds(("wins", ("a", "a", "b", "b"))),
                project.pin(("upto", 1, (0, 1))),
                project.pay("a", 0),
                project.depth,
                str(project),
            ],
            [("a", "b"), True, None, (), 1, "2 games, 1 pins, 1 changes"],
        )
        refused(self, Refused, project.pay, "a", 1)

    def test_of_a_live_house(self):
        live = Project(SEE)
        zero, one = ((0, 1), (0, 1)), ((1, 1), (1, 1))
        self.assertEqual(
            [
                live.alone(), live.holds(("free", (1, 1))), live.winner(3), live.pay("e", 1),
                live.winner(3), live.undo(), live.redo(),
            ],
            [
                {"e": zero, "f": zero}, True, None, (("e", zero, one),),
                ("e",), (("e", one, zero),), (("e", zero, one),),
            ],
        )


class Sayings(unittest.TestCase):
    def test_each_kind(self):
        answers = {}
        source = random.Random(221)
        for house in list(some_houses(221, 80, sizes=(1, 2, 3))) + [SWAP, SEE, PAR, three_ways()]:
            project = Project(house)
            row = tuple(source.choice(house.names) for _ in range(source.randint(1, 4)))
            bounds = row_runs(house, row) + numbers(best_runs(house)) + [Fraction(1, 3), Fraction(-1, 2)]
            bound = pair(source.choice(bounds))
            most = source.randint(1, 3)
            for saying in (("mixes",), ("wins", row), ("least", row, bound), ("free", bound), ("upto", most, bound)):
                right = is_true(house, saying)
                self.assertIs(project.holds(saying), right)
                answers[saying[0], right] = answers.get((saying[0], right), 0) + 1
                if right:
                    project.pin(saying)
                    self.assertIn(saying, project)
                else:
                    with self.assertRaises(Refused) as caught:
                        project.pin(saying)
                    self.assertEqual(caught.exception.cause, saying)
                    self.assertNotIn(saying, project)
        self.assertEqual(len(answers), 10)
        self.assertGreater(min(answers.values()), 3)

    def test_bounds_that_are_just_held(self):
        project = Project(SWAP)
        for saying in (
            ("least", ("c", "d"), (1, 2)),
            ("free", (1, 2)),
            ("upto", 1, (0, 1)),
            ("upto", 5, (1, 2)),
            ("least", ("d",), (0, 1)),
        ):
            self.assertIs(project.holds(saying), True)
        for saying in (
            ("least", ("c", "d"), (1, 1)),
            ("free", (51, 100)),
            ("upto", 1, (-1, LONGEST)),
            ("upto", 2, (49, 100)),
            ("wins", ("d",)),
            ("mixes",),
        ):
            self.assertIs(project.holds(saying), False)

    def test_from_each_standing(self):
        project = Project(three_ways())
        self.assertEqual(project.alone()["a"], ((3, 1), (-1, 2), (-1, 2), (1, 2), (35, 22), (19, 22)))
        for saying, right in (
            (("wins", ("a",)), False),
            (("least", ("a", "a"), (-1, 2)), True),
            (("least", ("a",), (-1, 3)), False),
            (("free", (-1, 2)), True),
            (("free", (0, 1)), False),
            (("upto", 5, (3, 1)), True),
            (("upto", 5, (29, 10)), False),
        ):
            self.assertIs(project.holds(saying), right)
        self.assertEqual((project.losing(), project.winner(5)), ((), None))

    def test_rows_of_twelve_turns_and_bounds_with_many_digits(self):
        project = Project(SWAP)
        self.assertIs(project.holds(("least", ("c",) * 11 + ("d",), (1, 12))), True)
        self.assertIs(project.holds(("free", (LONGEST, 1))), False)
        self.assertIs(project.holds(("upto", 5, (LONGEST, 1))), True)

    def test_five_turns_of_four_games(self):
        source = random.Random(222)
        house = House({name: some_game(source, 3, most_moves=3) for name in "abcd"})
        top = max(Fraction(*top_run(house, 5, standing)) for standing in range(3))
        project = Project(house)
        self.assertIs(project.holds(("upto", 5, pair(top))), True)
        self.assertIs(project.holds(("upto", 5, pair(top - Fraction(1, 10 ** 20)))), False)

    def test_what_is_no_saying(self):
        project = Project(PAR)
        for value in NOT_SAYINGS:
            for call in (project.holds, project.pin, project.unpin):
                refused(self, InvalidOperation, call, value)
            self.assertNotIn(value, project)
        self.assertEqual(state(project), state(Project(PAR)))

    def test_words_that_do_not_fit(self):
        project = Project(PAR)
        for call in (project.holds, project.pin):
            for row, word in ((("c",), "c"), (("a", "x", "y"), "x"), (("y", "x"), "y")):
                with self.assertRaises(UnknownGame) as caught:
                    call(("wins", row))
                self.assertEqual(caught.exception.asked, word)
                with self.assertRaises(UnknownGame) as caught:
                    call(("least", row, (0, 1)))
                self.assertEqual(caught.exception.asked, word)


class Pins(unittest.TestCase):
    def test_in_the_order_in_which_they_were_pinned(self):
        project = Project(PAR)
        sayings = [("wins", ("a", "a", "b", "b")), ("mixes",), ("upto", 1, (0, 1)), ("free", (0, 1))]
        for saying in sayings:
            self.assertIs(project.pin(saying), None)
        self.assertEqual(project.pins, tuple(sayings))
        project.pin(sayings[1])
        self.assertEqual(project.pins, tuple(sayings))
        self.assertIs(project.unpin(sayings[1]), None)
        self.assertEqual(project.pins, (sayings[0], sayings[2], sayings[3]))
        project.pin(sayings[1])
        self.assertEqual(project.pins, (sayings[0], sayings[2], sayings[3], sayings[1]))
        refused(self, InvalidOperation, project.unpin, ("free", (1, 1)))
        self.assertEqual(str(project), "2 games, 4 pins, 0 changes")

    def test_twenty_pins_and_one_more(self):
        self.assertEqual((module.MAX_PINS, module.MAX_SEARCH), (20, 5))
        project = Project(SEE)
        sayings = [("upto", 1, (at, 1)) for at in range(20)]
        for saying in sayings:
            project.pin(saying)
        before = state(project)
        refused(self, TooMany, project.pin, ("upto", 1, (20, 1)), limit=20)
        refused(self, InvalidOperation, project.pin, ("upto", 9, (20, 1)))
        refused(self, UnknownGame, project.pin, ("wins", ("x",)))
        refused(self, Refused, project.pin, ("wins", ("e",)))
        self.assertIs(project.pin(sayings[7]), None)
        self.assertEqual(state(project), before)
        project.unpin(sayings[0])
        project.pin(("upto", 1, (20, 1)))
        self.assertEqual(project.pins, tuple(sayings[1:]) + (("upto", 1, (20, 1)),))

    def test_pins_are_no_changes(self):
        project = Project(SWAP)
        project.pay("c", 1)
        project.pin(("wins", ("c",)))
        self.assertEqual((project.depth, project.news), (1, (("c", ((0, 1),) * 2, ((1, 1),) * 2),)))
        with self.assertRaises(Refused) as caught:
            project.undo()
        self.assertEqual(caught.exception.cause, ("wins", ("c",)))
        project.unpin(("wins", ("c",)))
        project.undo()
        self.assertEqual((project.house, project.pins), (SWAP, ()))
        project.pin(("upto", 1, (0, 1)))
        before = project.news
        refused(self, Refused, project.redo)
        self.assertEqual((project.house, project.depth, project.news), (SWAP, 0, before))
        project.unpin(("upto", 1, (0, 1)))
        project.redo()
        self.assertEqual(project.house, SWAP.paid("c", 1))


class Changes(unittest.TestCase):
    def test_each_change(self):
        source = random.Random(223)
        for house in some_houses(223, 60, sizes=(1, 2, 3), games=(2, 3)):
            project = Project(house)
            game = some_game(source, house.size)
            names = dict(zip(house.names, house.names[1:] + ("z",)))
            for call, arguments, behind in (
                (project.put, ("e", game), lambda one: one.with_game("e", game)),
                (project.put, ("a", game), lambda one: one.with_game("a", game)),
                (project.pay, ("b", -3), lambda one: one.paid("b", -3)),
                (project.mix, ("a", "a", "b", (1, 3)), lambda one: one.blend("a", "a", "b", (1, 3))),
                (project.drop, ("e",), lambda one: one.without("e")),
                (project.rename, (names,), lambda one: one.renamed(names)),
                (project.pay, ("b", 0), lambda one: one.paid("b", 0)),
            ):
                ahead, depth = project.house, project.depth
                wanted = behind(ahead)
                news = call(*arguments)
                self.assertEqual(news, news_of(ahead, wanted))
                self.assertEqual((project.house, project.news, project.depth), (wanted, news, depth + 1))
                self.assertEqual((len(project), list(project)), (len(wanted), list(wanted.names)))
                self.assertEqual(project.alone(), {name: long_runs(wanted, (name,)) for name in wanted})

    def test_another_number_of_standings(self):
        project = Project(House({"a": ONE_STANDING}))
        self.assertEqual(project.put("a", C), (("a", ((4, 1),), ((0, 1), (0, 1))),))
        self.assertEqual(project.undo(), (("a", ((0, 1), (0, 1)), ((4, 1),)),))

    def test_that_are_no_changes(self):
        project = Project(SWAP)
        project.pay("c", 1)
        project.undo()
        before = state(project)
        for name in OTHERS + (0, "C", "abcdefghi"):
            refused(self, InvalidWord, project.put, name, None)
            refused(self, InvalidWord, project.mix, name, None, None, None)
        for game in OTHERS + (0, SWAP):
            refused(self, InvalidGame, project.put, "m", game)
        refused(self, InvalidHouse, project.put, "m", ONE_STANDING)
        for name in NOT_NAMES:
            refused(self, UnknownGame, project.drop, name, asked=name)
            refused(self, UnknownGame, project.pay, name, None, asked=name)
            refused(self, UnknownGame, project.mix, "m", "c", name, None, asked=name)
            refused(self, UnknownGame, project.mix, "m", name, None, None, asked=name)
        for names in OTHERS + (0, {"c": "x"}, {"c": "x", "d": "x"}):
            refused(self, InvalidOperation, project.rename, names)
        for amount in NOT_INTEGERS + (100, -100):
            refused(self, InvalidNumber, project.pay, "c", amount, number=amount)
        refused(self, InvalidHouse, project.pay, "c", 99)
        for share in NOT_FRACTIONS + ((3, 2), (-1, 2)):
            refused(self, InvalidFraction, project.mix, "m", "c", "d", share)
        self.assertEqual(state(project), before)
        self.assertEqual(project.redo(), (("c", ((0, 1),) * 2, ((1, 1),) * 2),))
        project.drop("d")
        refused(self, InvalidHouse, project.drop, "c")

    def test_refused_by_the_first_pin(self):
        project = Project(PAR)
        for saying in (("mixes",), ("upto", 1, (0, 1)), ("wins", ("a", "a", "b", "b")), ("free", (0, 1))):
            project.pin(saying)
        project.pay("a", 0)
        project.undo()
        before = state(project)
        for call, arguments, cause in (
            (project.pay, ("a", 1), ("upto", 1, (0, 1))),
            (project.drop, ("a",), ("wins", ("a", "a", "b", "b"))),
            (project.rename, ({"a": "b", "b": "c"},), ("wins", ("a", "a", "b", "b"))),
            (project.put, ("c", (((0, 9, (1, 1)),), ((1, 9, (1, 1)),), ((2, 9, (1, 1)),))), ("mixes",)),
            (project.mix, ("b", "a", "a", (1, 1)), ("wins", ("a", "a", "b", "b"))),
            (project.pay, ("b", -2), ("wins", ("a", "a", "b", "b"))),
        ):
            with self.assertRaises(Refused) as caught:
                call(*arguments)
            self.assertEqual(caught.exception.cause, cause)
            self.assertEqual(state(project), before)
        # An error of the method comes ahead of a pin that would refuse.
        refused(self, UnknownGame, project.pay, "x", 1)
        refused(self, InvalidNumber, project.pay, "a", 1000)

    def test_a_row_whose_words_fit_again(self):
        project = Project(SWAP)
        project.pin(("wins", ("c", "d")))
        refused(self, Refused, project.rename, {"c": "x", "d": "d"})
        self.assertEqual(project.rename({"c": "d", "d": "c"}), ())
        self.assertEqual(project.house, House({"c": D, "d": C}))

    def test_undo_and_redo(self):
        project = Project(SWAP)
        houses = [SWAP]
        for amount in (1, 2, 3, 0):
            project.pay("c", amount)
            houses.append(project.house)
        self.assertEqual((project.depth, project.news), (4, ()))
        self.assertEqual(project.undo(0), ())
        self.assertEqual((project.depth, project.house), (4, houses[4]))
        self.assertEqual(project.undo(2), news_of(houses[4], houses[2]))
        self.assertEqual((project.depth, project.house, project.news), (2, houses[2], news_of(houses[4], houses[2])))
        self.assertEqual(project.undo(0), ())
        self.assertEqual(project.redo(0), ())
        self.assertEqual(project.news, news_of(houses[4], houses[2]))
        self.assertEqual(project.redo(), news_of(houses[2], houses[3]))
        self.assertEqual(project.undo(3), news_of(houses[3], houses[0]))
        self.assertEqual((project.depth, project.house), (0, SWAP))
        self.assertEqual(project.redo(4), news_of(houses[0], houses[4]))
        self.assertEqual((project.depth, project.house), (4, houses[4]))
        for at in (3, 2, 1, 0):
            self.assertEqual(project.undo(), news_of(houses[at + 1], houses[at]))
            self.assertEqual(project.house, houses[at])

    def test_all_orders_of_undo_and_redo(self):
        source = random.Random(224)
        project = Project(SEE)
        made, back = [SEE], []
        for _ in range(300):
            before = project.house
            kind = source.choice(("change", "undo", "undo", "redo"))
            many = source.randint(0, 3)
            if kind == "change":
                project.pay("e", source.choice((-1, 0, 1)) if abs(project.house.seen[0]) < 90 else 0)
                made, back = made + [project.house], []
            elif kind == "undo" and many < len(made):
                self.assertEqual(project.undo(many), news_of(before, made[-1 - many]))
                back = back + made[len(made) - many:][::-1]
                made = made[:len(made) - many]
            elif kind == "redo" and many <= len(back):
                wanted = back[-many] if many else before
                self.assertEqual(project.redo(many), news_of(before, wanted))
                made = made + back[len(back) - many:][::-1]
                back = back[:len(back) - many]
            else:
                refused(self, NothingToUndo, project.undo if kind == "undo" else project.redo, many, amount=many)
            self.assertEqual((project.house, project.depth), (made[-1], len(made) - 1))

    def test_more_changes_than_there_are(self):
        project = Project(SWAP)
        project.pay("c", 1)
        before = state(project)
        for many in NOT_INTEGERS + (-1, -LONGEST):
            refused(self, InvalidNumber, project.undo, many, number=many)
            refused(self, InvalidNumber, project.redo, many, number=many)
        for many in (2, LONGEST):
            refused(self, NothingToUndo, project.undo, many, amount=many)
        for many in (1, LONGEST):
            refused(self, NothingToUndo, project.redo, many, amount=many)
        refused(self, NothingToUndo, project.redo, amount=1)
        self.assertEqual(state(project), before)
        project.undo()
        refused(self, NothingToUndo, project.undo, amount=1)

    def test_nothing_is_made_again_behind_a_new_change(self):
        for change in (lambda one: one.pay("d", 5), lambda one: one.pay("d", 0)):
            project = Project(SWAP)
            project.pay("c", 1)
            project.undo()
            self.assertEqual(redoable(project), 1)
            change(project)
            self.assertEqual(redoable(project), 0)
            refused(self, NothingToUndo, project.redo, 1, amount=1)
            self.assertEqual(project.depth, 1)

    def test_a_change_that_is_refused_leaves_what_can_be_made_again(self):
        project = Project(SWAP)
        project.pay("c", 1)
        project.undo()
        project.pin(("wins", ("c", "d")))
        refused(self, Refused, project.drop, "c")
        self.assertEqual(redoable(project), 1)

    def test_several_at_once_are_refused_by_the_last_house_alone(self):
        project = Project(SWAP)
        project.pay("d", -9)
        project.pay("d", 9)
        project.pin(("wins", ("c", "d")))
        refused(self, Refused, project.undo, 1)
        self.assertEqual(project.undo(2), ())
        self.assertEqual(project.house, SWAP)
        refused(self, Refused, project.redo, 1)
        self.assertEqual(project.redo(2), ())

    def test_first_news(self):
        project = Project(SWAP)
        self.assertEqual(project.news, ())
        refused(self, UnknownGame, project.drop, "x")
        project.pin(("wins", ("c", "d")))
        self.assertEqual(project.news, ())

    def test_long_numbers(self):
        project = Project(SEE)
        project.pay("e", 1)
        before = state(project)
        refused(self, TooMany, project.put, "e", LONG, limit=300)
        self.assertEqual(state(project), before)
        project.put("g", LONG)
        refused(self, TooMany, project.alone, limit=300)
        before = project.house, project.depth, project.news, project.pins
        refused(self, TooMany, project.pay, "g", 1, limit=300)
        self.assertEqual((project.house, project.depth, project.news, project.pins), before)
        self.assertEqual(project.losing(), ())


class Asking(unittest.TestCase):
    def test_alone_and_losing(self):
        for house in list(some_houses(225, 60)) + [SWAP, SEE, PAR]:
            project = Project(house)
            self.assertEqual(list(project.alone().items()), [(name, long_runs(house, (name,))) for name in house])
            losing = [name for name in house if all(run[0] < 0 for run in long_runs(house, (name,)))]
            self.assertEqual(project.losing(), tuple(losing))
        project.alone().clear()
        self.assertEqual(list(project.alone()), ["a", "b"])

    def test_winners(self):
        found = {}
        for house in list(some_houses(226, 60, games=(1, 2), sizes=(1, 2, 3))) + [SWAP, SEE, PAR, three_ways()]:
            project = Project(house)
            for most in (1, 2, 3, 4, 5):
                rows = [row for length in range(1, most + 1) for row in all_rows(house, length)]
                winning = [row for row in rows if all(run > 0 for run in numbers(long_runs(house, row)))]
                row = project.winner(most)
                if not winning:
                    self.assertIs(row, None)
                else:
                    self.assertIn(row, winning)
                    self.assertEqual(len(row), len(winning[0]))
                    found[len(row)] = True
        self.assertLessEqual({1, 2}, set(found))
        self.assertIs(Project(SEE).winner(5), None)
        self.assertEqual(len(Project(PAR).winner(4)), 3)

    def test_wrong_numbers_of_turns(self):
        for most in NOT_INTEGERS + (0, -1, 6, LONGEST):
            refused(self, InvalidNumber, Project(PAR).winner, most, number=most)

    def test_wrong_houses(self):
        for house in OTHERS + (0, SWAP_GAMES, Ratio(1), Project(SWAP)):
            refused(self, InvalidHouse, Project, house)

    def test_equal_ones(self):
        one, other = Project(PAR), Project(parrondo((1, 200)))
        self.assertTrue(one == other)
        one.pay("a", 1)
        self.assertTrue(one != other)
        one.undo()
        # Changes that were taken back, and news, play no part.
        self.assertTrue(one == other)
        one.pin(("mixes",))
        self.assertFalse(one == other)
        one.pin(("free", (0, 1)))
        other.pin(("free", (0, 1)))
        other.pin(("mixes",))
        self.assertFalse(one == other)
        other.unpin(("free", (0, 1)))
        other.pin(("free", (0, 1)))
        self.assertTrue(one == other)
        for value in OTHERS + (0, PAR, one.pins, Project(SWAP)):
            self.assertFalse(one == value)
            self.assertTrue(one != value)

    def test_no_shared_state(self):
        one = Project(SWAP)
        pins = one.pins
        one.pin(("free", (0, 1)))
        one.pay("c", 1)
        self.assertEqual((pins, SWAP.games), ((), SWAP_GAMES))
        other = Project(one.house)
        other.pay("c", 1)
        self.assertEqual((one.depth, one.house), (1, SWAP.paid("c", 1)))

    def test_what_is_asked_again_is_answered_alike(self):
        for house in itertools.islice(some_houses(227, 99), 20):
            project = Project(house)
            for _ in range(2):
                self.assertEqual(state(project), state(Project(house)))
                self.assertEqual((project.winner(3), project.losing()), (project.winner(3), project.losing()))
            self.assertEqual(pairs(row_runs(house, ("a",))), project.alone()["a"])


if __name__ == "__main__":
    unittest.main()
