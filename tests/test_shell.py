"""Stage 15: a shell that is asked and changed by lines."""

import random
import unittest
from fractions import Fraction

from reference import SEE_GAMES, SWAP_GAMES, pair, some_houses, some_rows, three_ways
from samples import LONGEST, OTHERS, refused
from wonbyturns.above.best import best_row, fewest_turns, top_run, won_by_turns
from wonbyturns.above.weights import Weights, ceiling, is_above_paper
from wonbyturns.base.houses import House
from wonbyturns.base.ratios import Ratio
from wonbyturns.errors import InvalidOperation, TooMany
from wonbyturns.free.policies import best_policies, best_runs
from wonbyturns.lots.mixes import lot_runs
from wonbyturns.play.mixing import is_mixing
from wonbyturns.play.rounds import homes, long_runs
from wonbyturns.play.rows import row_totals
from wonbyturns.purse.games import parrondo
from wonbyturns.text.shell import Shell
from wonbyturns.text.texts import is_written, read, write

SWAP = House(SWAP_GAMES)
SEE = House(SEE_GAMES)
PAR = parrondo((1, 200))
TINY, SMALL = Fraction(1, LONGEST), Fraction(1, 10 ** 200 + 1)

# Commands with other items than they take, and lines that are no commands.
NO_COMMANDS = (
    "",
    " ",
    "oops",
    "Show",
    "show ",
    " show",
    "show x",
    "show\n",
    "sho",
    "house",
    "house ",
    "house x",
    "houses c 0 0 0 1",
    "drop",
    "drop ",
    "drop c d",
    "drop C",
    "drop c ",
    "drop  c",
    "drop 1",
    "drop abcdefghi",
    "pay c",
    "pay c 1 2",
    "pay c  1",
    "pay 1 c",
    "pay c 01",
    "pay c -01",
    "pay c +1",
    "pay c -0",
    "pay c 1000",
    "pay c -1000",
    "pay c 1/2",
    "pay c x",
    "pay c --1",
    "turn x",
    "turn ",
    "blend m c d",
    "blend m c d 1/2 x",
    "blend m c d 2/4",
    "blend M c d 1/2",
    "blend m c 1/2",
    "blend m c d  1/2",
    "totals",
    "totals ",
    "totals c  d",
    "totals c d ",
    "totals c; d",
    "run",
    "run C",
    "run c 1",
    "run -",
    "homes",
    "homes c;d",
    "mixes c",
    "mixes ",
    "ceiling",
    "ceiling 01",
    "ceiling -1",
    "ceiling 1000",
    "ceiling 1 2",
    "ceiling x",
    "ceiling 1/2",
    "above",
    "above 1 2",
    "best 1",
    "best 1 0 0",
    "best 1 -1",
    "best -1 0",
    "best 1  0",
    "best 00 0",
    "best 1 00",
    "best c d",
    "won 1",
    "won 1 0 ",
    "won 1 1000",
    "fewest",
    "fewest 1",
    "fewest 1 0 1",
    "free 1",
    "policy c",
    "lot",
    "lot ",
    "lot c",
    "lot c:1/2 c:1/2",
    "lot d:1/2 c:1/2",
    "lot c:1/2; d:1/2",
    "lot c:1/2  d:1/2",
    "lot c:2/4 d:1/2",
    "run c d\nrun c d",
    "run c\nd",
)


def shell_of(house):
    """A shell with a house."""
    shell = Shell()
    assert shell.run("house " + "; ".join(house.lines)) == "ok"
    return shell


def answer_of(call, *arguments):
    """What a call returns, or the name of its error."""
    try:
        return call(*arguments)
    except (ArithmeticError, LookupError, RuntimeError, ValueError) as error:
        return f"error {error.__class__.__name__}"


def vector(call, *arguments):
    """What a call returns as the text of a vector, or the name of its error."""
    found = answer_of(call, *arguments)
    return found if isinstance(found, str) else write("vector", found)


def each(seed, many=25):
    """Drawn houses."""
    return list(some_houses(seed, many, sizes=(1, 2, 3, 5))) + [SWAP, SEE, PAR, three_ways()]


class Examples(unittest.TestCase):
    def test_of_a_shell(self):
        shell = Shell()
        self.assertEqual(
            shell.run_all(
                "show", "house c 0 1 1 1; c 1 0 -1 1; d 0 0 0 1; d 1 0 0 1", "run c d", "homes c c", "mixes",
                "best 2 0", "won 2 0", "fewest 2 0", "free", "drop c", "run c", "oops", "fewest 3 0",
            ),
            (
                "error InvalidOperation", "ok", "1/2 1/2", "0; 1", "no", "c d : 1/2", "no", "2", "1/2 1/2", "ok",
                "error InvalidRow", "error ParseError", "none",
            ),
        )


class Houses(unittest.TestCase):
    def test_houses(self):
        for house in each(241):
            shell = shell_of(house)
            self.assertEqual(shell.house, house)
            self.assertEqual(shell.run("show"), "; ".join(house.lines))
        shell = shell_of(SWAP)
        self.assertEqual(shell.run("house " + "; ".join(SEE.lines)), "ok")
        self.assertEqual(shell.house, SEE)

    def test_wrong_houses(self):
        shell = shell_of(SWAP)
        for line, answer in (
            ("house c 0 0 0 1;d 0 0 0 1", "ParseError"),
            ("house c 0 0 0 1; c 0 0 0 1", "ParseError"),
            ("house d 0 0 0 1; c 0 0 0 1", "ParseError"),
            ("house c 0 0 0 1; ", "ParseError"),
            ("house c 0 0 0 1 ", "ParseError"),
            ("house  c 0 0 0 1", "ParseError"),
            ("house c 0 0 0 2/4", "ParseError"),
            ("house c 0 0 100 1", "ParseError"),
            ("house c 0 1 0 1", "InvalidHouse"),
            ("house c 0 0 0 1/2", "InvalidHouse"),
            ("house a 0 0 0 1; b 0 0 0 1; c 0 0 0 1; d 0 0 0 1; e 0 0 0 1", "InvalidHouse"),
        ):
            for one in (Shell(), shell):
                before = one.house
                self.assertEqual(one.run(line), f"error {answer}", line)
                self.assertEqual(one.house, before)
        self.assertEqual(len(shell), 1)

    def test_changes(self):
        for house in each(242):
            first, last = house.names[0], house.names[-1]
            for line, call, arguments in (
                (f"drop {first}", house.without, (first,)),
                (f"pay {last} -7", house.paid, (last, -7)),
                (f"pay {last} 0", house.paid, (last, 0)),
                (f"pay {last} 96", house.paid, (last, 96)),
                (f"pay {last} 99", house.paid, (last, 99)),
                (f"pay {last} 100", house.paid, (last, 100)),
                (f"pay {last} -999", house.paid, (last, -999)),
                ("pay none 1", house.paid, ("none", 1)),
                ("turn", house.turned, ()),
                (f"blend m {first} {last} 2/7", house.blend, ("m", first, last, (2, 7))),
                (f"blend {first} {first} {last} 0", house.blend, (first, first, last, (0, 1))),
                (f"blend m {first} {last} 3/2", house.blend, ("m", first, last, (3, 2))),
                (f"blend m {first} {last} -1", house.blend, ("m", first, last, (-1, 1))),
                (f"blend m {first} none 1/2", house.blend, ("m", first, "none", (1, 2))),
                (f"blend m none {first} 1/2", house.blend, ("m", "none", first, (1, 2))),
            ):
                shell = shell_of(house)
                wanted = answer_of(call, *arguments)
                if isinstance(wanted, House):
                    self.assertEqual(shell.run(line), "ok")
                    self.assertEqual((shell.house, shell.kept[1:]), (wanted, (line,)))
                else:
                    self.assertEqual(shell.run(line), wanted)
                    self.assertEqual((shell.house, shell.kept[1:]), (house, ()))


class Answers(unittest.TestCase):
    def test_of_rows(self):
        for house in each(243):
            shell = shell_of(house)
            for row in list(some_rows(243, house, 5)) + [("x",), house.names[:1] * 12, house.names[:1] * 13]:
                text = " ".join(row)
                self.assertEqual(shell.run(f"totals {text}"), vector(row_totals, house, row))
                self.assertEqual(shell.run(f"run {text}"), vector(long_runs, house, row))
                found = answer_of(homes, house, row)
                if not isinstance(found, str):
                    found = "; ".join(" ".join(str(one) for one in home) for home in found)
                self.assertEqual(shell.run(f"homes {text}"), found)
        self.assertEqual(shell_of(three_ways()).run("homes a"), "0; 1 2; 3")

    def test_of_the_house(self):
        for house in each(244):
            shell = shell_of(house)
            self.assertEqual(shell.run("mixes"), "yes" if is_mixing(house) else "no")
            self.assertEqual(shell.run("free"), write("vector", best_runs(house)))
            self.assertIn(read("row", shell.run("policy")), best_policies(house))

    def test_of_bounds(self):
        for house in each(245):
            shell = shell_of(house)
            for length in (1, 2, 5):
                bound = shell.run(f"ceiling {length}")
                self.assertEqual(bound, write("fraction", ceiling(house, length)))
                weights = read("vectors", shell.run(f"above {length}"))
                self.assertIs(is_above_paper(house, (read("fraction", bound), weights)), True)
            for length in (0, 13, 999):
                self.assertEqual(shell.run(f"ceiling {length}"), "error InvalidNumber")
                self.assertEqual(shell.run(f"above {length}"), "error InvalidNumber")
        self.assertLessEqual(len(Weights(SEE, read("vectors", shell_of(SEE).run("above 12")))), 200)

    def test_of_best_rows(self):
        answers = set()
        for house in each(246):
            shell = shell_of(house)
            for most, standing in ((1, 0), (3, house.size - 1), (2, house.size), (0, 0), (13, 0), (2, 999), (12, 0)):
                items = f"{most} {standing}"
                row = answer_of(best_row, house, most, standing)
                if not isinstance(row, str):
                    row = f"{' '.join(row)} : {write('fraction', top_run(house, most, standing))}"
                self.assertEqual(shell.run(f"best {items}"), row)
                won = answer_of(won_by_turns, house, most, standing)
                self.assertEqual(shell.run(f"won {items}"), {True: "yes", False: "no"}.get(won, won))
                fewest = str(answer_of(fewest_turns, house, most, standing)).replace("error NoRow", "none")
                self.assertEqual(shell.run(f"fewest {items}"), fewest)
                answers |= {shell.run(f"won {items}"), fewest}
        self.assertLessEqual({"yes", "no", "none", "1", "error InvalidNumber"}, answers)
        four = shell_of(PAR.with_game("c", PAR["a"]).with_game("d", PAR["a"]))
        for line in ("best 7 0", "won 7 0", "fewest 7 0"):
            self.assertEqual(four.run(line), f"error {TooMany.__name__}")

    def test_of_lots(self):
        source = random.Random(247)
        for house in each(247):
            shell = shell_of(house)
            parts = [source.randint(0, 4) for _ in house]
            parts[0] += not any(parts)
            lot = {name: pair(Fraction(part, sum(parts))) for name, part in zip(house, parts)}
            line = "lot " + write("lot", lot)
            self.assertEqual(shell.run(line), write("vector", lot_runs(house, lot)))
            wrong = ["lot x:1", f"lot {house.names[0]}:1/3", "lot " + write("lot", {**lot, "zz": (0, 1)})]
            for other in wrong:
                self.assertEqual(shell.run(other), "error InvalidLot")

    def test_no_commands(self):
        for shell in (Shell(), shell_of(SWAP)):
            before = shell.kept
            for line in NO_COMMANDS:
                self.assertEqual(shell.run(line), "error ParseError", line)
            self.assertEqual(shell.kept, before)

    def test_without_a_house(self):
        shell = Shell()
        for line in (
            "show", "drop c", "pay c 1", "pay c -999", "turn", "blend m c d 1/2", "blend m c d 5", "totals c", "run c d",
            "homes c", "mixes", "ceiling 1", "above 999", "best 2 0", "won 2 0", "fewest 2 0", "free", "policy",
            "lot c:1/2 d:1/2", "lot c:5",
        ):
            self.assertEqual(shell.run(line), "error InvalidOperation", line)
        self.assertEqual((shell.house, shell.kept, str(shell)), (None, (), "0 lines, no house"))

    def test_long_numbers(self):
        house = House({"a": (
            ((0, 1, pair(1 - TINY)), (1, 0, pair(TINY))),
            ((0, 1, pair(SMALL)), (1, 0, pair(1 - SMALL))),
        )})
        shell = shell_of(house)
        for line in ("run a", "free", "lot a:1"):
            self.assertEqual(shell.run(line), "error TooMany")
        self.assertEqual(shell.run("policy"), "a a")
        self.assertEqual((shell.house, shell.kept[1:]), (house, ("policy",)))


class Shells(unittest.TestCase):
    def test_kept_lines(self):
        shell = Shell()
        self.assertEqual((len(shell), list(shell), shell.kept, shell.house), (0, [], (), None))
        lines = ("house " + "; ".join(SWAP.lines), "run c", "oops", "drop x", "fewest 1 0", "run c", "drop c")
        answers = shell.run_all(*lines)
        self.assertEqual(answers, ("ok", "0 0", "error ParseError", "error UnknownGame", "none", "0 0", "ok"))
        self.assertEqual(shell.kept, (lines[0], "run c", "fewest 1 0", "run c", "drop c"))
        self.assertEqual((list(shell), len(shell)), (list(shell.kept), 5))
        self.assertEqual((str(shell), shell.house), ("5 lines, 1 games", SWAP.without("c")))

    def test_all_and_one_by_one(self):
        lines = ("house " + "; ".join(SEE.lines), "turn", "mixes", "pay e 1", "free", "policy")
        one, other = Shell(), Shell()
        self.assertEqual(one.run_all(*lines), tuple(other.run(line) for line in lines))
        self.assertEqual(one, other)
        self.assertEqual(one.run_all(), ())

    def test_what_is_no_string(self):
        shell = shell_of(SWAP)
        for value in OTHERS + (0, b"show", Ratio(1), ["show"]):
            if not isinstance(value, str):
                refused(self, InvalidOperation, shell.run, value)
                refused(self, InvalidOperation, shell.run_all, value)
                refused(self, InvalidOperation, shell.run_all, "turn", value, "turn")
        self.assertEqual((shell.house, len(shell)), (SWAP, 1))

    def test_any_other_line(self):
        source = random.Random(248)
        signs = "abcd 019-/:;<>\"'{}.~"
        shell = shell_of(SWAP)
        for value in OTHERS:
            if isinstance(value, str):
                self.assertEqual(shell.run(value), "error ParseError")
        words = ["run", "best", "lot", "pay", "drop", "house", "ceiling", "blend", "fewest", "c", "d", "1", "2", "0", "1/2"]
        for _ in range(2000):
            line = " ".join(source.choice(words) for _ in range(source.randint(1, 4)))
            if source.random() < 0.3:
                at = source.randrange(len(line) + 1)
                line = line[:at] + source.choice(signs) + line[at:]
            answer = shell.run(line)
            self.assertIs(answer.__class__, str)
            self.assertNotIn("\n", answer)
            if shell.house.names != ("c", "d"):
                shell = shell_of(SWAP)

    def test_equal_ones(self):
        one, other = shell_of(SWAP), shell_of(SWAP)
        self.assertTrue(one == other)
        one.run("oops")
        self.assertTrue(one == other)
        one.run("mixes")
        self.assertTrue(one != other)
        other.run("mixes")
        self.assertFalse(one != other)
        for value in OTHERS + (0, one.kept, SWAP, Shell()):
            self.assertFalse(one == value)
            self.assertTrue(one != value)

    def test_no_shared_state(self):
        shell = shell_of(SWAP)
        kept = shell.kept
        shell.run("turn")
        self.assertEqual((len(kept), len(shell)), (1, 2))
        self.assertEqual(SWAP.games, SWAP_GAMES)

    def test_forms_of_the_answers(self):
        shell = shell_of(PAR)
        for form, lines in (
            ("vector", ("totals a b", "run a b", "free", "lot a:1/2 b:1/2")),
            ("vectors", ("above 3",)),
            ("fraction", ("ceiling 3",)),
            ("row", ("policy",)),
        ):
            for line in lines:
                self.assertIs(is_written(form, shell.run(line)), True)


if __name__ == "__main__":
    unittest.main()
