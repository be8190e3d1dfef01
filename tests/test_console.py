import random
import unittest

from letparts.benches import Bench
from letparts.console import Console
from letparts.errors import (
    InvalidCommand, InvalidNumber, InvalidPart, InvalidRow, NoSuchPart, NotAlike, NothingToUndo, NotLet, NotOdd,
    NotUnlike, TooMany)
from letparts.games import best_moves, is_lost, rims, worth
from letparts.gaps import gaps
from letparts.heaps import comes_again, dealt_from, deals, is_garden
from letparts.ladders import ladders
from letparts.paying import is_balanced, is_complete, is_perfect, is_set
from letparts.ranks import crank, rank
from letparts.rods import core, strikes, threads
from letparts.rows import as_text, hooks, place_of, square, turned
from letparts.rules import Bans, Caps, lets
from letparts.squares import is_own, squares
from letparts.vectors import raises, rod_sign, vector
from tests.helpers import NOT_INTEGERS, NOT_ROWS, Case, given, listed_rows, random_row, random_unlike

# For each command the kinds of the words behind it.
FORMS = {
    "put": "N", "take": "N", "turn": "", "deal": "", "turn over": "", "strike": "ROW N", "exchange": "RULE RULE",
    "split": "N", "merge": "N", "fish": "", "lift": "ROW N", "rim": "ROW", "undo": "", "row": "", "turned": "",
    "core": "N", "sum": "", "parts": "", "square": "", "rank": "", "crank": "", "place": "", "worth": "", "sign": "N",
    "ladders": "RULE", "hooks": "", "threads": "N", "strikes": "N", "from": "", "rims": "", "best": "", "gaps": "",
    "squares": "", "vector": "N", "let": "RULE", "own": "", "lost": "", "garden": "", "again": "", "complete": "",
    "perfect": "", "set": "", "balanced": "", "deals": ""}
RIGHT = {"N": ("3", "0", "10", "400", "999"), "ROW": ("-", "4+4+1", "600"), "RULE": ("|1", "02|0", "*" * 24 + "|0123456*")}
WRONG = {
    "N": ("", "03", "00", "007", "1000", "0123", "-1", "+1", "3.", "a", "3+1", "-", "|1", "1e2", "3\n", "True", "1_0"),
    "ROW": ("", "--", "4+4+", "+4", "0", "1+2", "4+0", "04", "601", "600+1", "4-4", "(4,)", "|1", "x", "1000", "4,4"),
    "RULE": ("", "|", "1", "|7", "|*" * 2, "||1", "none", "2+1", "|1|", "*" * 25 + "|1", "|123456012", "|a", "-", "|-1")}
SMALL = [row for number in range(8) for row in listed_rows(number)]
RULES = [Caps((), (1,)), Caps((), (None, 0)), Caps((0, 2), (0,)), Caps((), (None,))]


def listed(texts):
    texts = list(texts)
    return " ".join(texts) if texts else "none"


def truth(value):
    return {True: "yes", False: "no"}[value]


class Questions(Case):
    def asked(self, row, command, expected):
        """A console at a row answers this, each time, and the row stays."""
        console = Console(row)
        for _ in range(2):
            answer = console.say(command)
            self.assertEqual(repr(answer), repr(expected), (row, command))
        self.assertEqual(console.say(command=command), expected)
        self.assertEqual((console.bench.now, console.bench.changes), (row, 0))

    def test_questions_alone(self):
        lots = random.Random(191)
        for row in SMALL + [random_row(lots, 24), random_unlike(lots, 24), random_row(lots, 60), (60,), (1,) * 60]:
            expected = {
                "row": as_text(row), "turned": as_text(turned(row)), "sum": str(sum(row)), "parts": str(len(row)),
                "square": str(square(row)), "rank": str(rank(row)), "crank": str(crank(row)),
                "place": str(place_of(row)), "worth": str(worth(row)), "hooks": listed(map(str, hooks(row))),
                "from": listed(map(as_text, dealt_from(row))), "rims": listed(map(as_text, rims(row))),
                "best": listed(map(as_text, best_moves(row))), "gaps": listed(map(str, gaps(row))),
                "squares": listed(map(str, squares(row))), "own": truth(is_own(row)), "lost": truth(is_lost(row)),
                "garden": truth(is_garden(row)), "again": truth(comes_again(row)), "complete": truth(is_complete(row)),
                "perfect": truth(is_perfect(row)), "set": truth(is_set(row)), "balanced": truth(is_balanced(row)),
                "deals": str(deals(row))}
            for command, answer in expected.items():
                self.asked(row, command, answer)

    def test_questions_with_more(self):
        for row in SMALL:
            for rods in range(2, 10):
                self.asked(row, f"core {rods}", as_text(core(row, rods)))
                self.asked(row, f"sign {rods}", str(rod_sign(row, rods)))
                self.asked(row, f"threads {rods}", listed(map(as_text, threads(row, rods))))
                self.asked(row, f"strikes {rods}", listed(map(as_text, strikes(row, rods))))
                self.asked(row, f"vector {rods}", listed(map(str, vector(core(row, rods), rods))))
            for rule in RULES:
                self.asked(row, f"let {rule}", truth(lets(rule, row)))
                self.asked(row, f"ladders {rule}", str(ladders(rule, row)))

    def test_told_answers(self):
        for row, command, answer in (
                ((), "row", "-"), ((), "turned", "-"), ((), "hooks", "none"), ((), "gaps", "none"), ((), "squares", "none"),
                ((), "rims", "none"), ((), "best", "none"), ((), "from", "-"), ((), "strikes 2", "none"),
                ((), "threads 2", "- -"), ((), "vector 3", "0 0 0"), ((), "sum", "0"), ((), "crank", "0"),
                ((2, 2, 2, 2), "from", "none"), ((4, 4, 1), "threads 3", "2 - 1"), ((4, 4, 1), "place", "17"),
                ((1, 1), "crank", "-2"), ((1, 1), "rank", "-1"), ((1, 1), "sign 2", "-1"), ((4,), "deals", "1"),
                ((3, 1), "vector 3", "0 -1 1"), ((4, 2, 1), "ladders |1", "7"), ((4, 4), "best", "none"),
                ((600,), "row", "600"), ((600,), "sum", "600"), ((600,), "worth", "600")):
            self.asked(row, command, answer)

    def test_errors_of_what_is_called(self):
        for row, command, error, name, told in (
                ((201,), "place", TooMany, "given", 201), ((25,), "ladders |1", TooMany, "given", 25),
                ((61,), "rims", TooMany, "given", 61), ((61,), "best", TooMany, "given", 61),
                ((61,), "deals", TooMany, "given", 61), ((2,), "core 1", InvalidNumber, "given", 1),
                ((2,), "core 10", InvalidNumber, "given", 10), ((2,), "threads 0", InvalidNumber, "given", 0),
                ((2,), "strikes 999", InvalidNumber, "given", 999), ((2,), "sign 1", InvalidNumber, "given", 1),
                ((2,), "vector 10", InvalidNumber, "given", 10), ((2,), "put 0", InvalidPart, "given", 0),
                ((2,), "put 599", TooMany, "given", 601), ((2,), "take 0", NoSuchPart, "given", 0),
                ((2,), "take 1", NoSuchPart, "given", 1), ((2, 2), "turn over", NotUnlike, "given", (2, 2)),
                ((2,), "strike 2 2", NotLet, "given", (2,)), ((2,), "strike - 1", InvalidNumber, "given", 1),
                ((2,), "exchange |1 |2", NotAlike, "given", 2), ((61,), "exchange |1 |*0", TooMany, "given", 61),
                ((2, 2), "exchange |1 |*0", NotLet, "given", (2, 2)), ((2,), "split 1", InvalidNumber, "given", 1),
                ((2,), "merge 10", InvalidNumber, "given", 10), ((2, 1), "fish", NotOdd, "given", (2, 1)),
                ((2,), "lift 2 2", NotLet, "given", (2,)), ((2,), "lift 4 0", InvalidNumber, "given", 0),
                ((600,), "lift 602 2", InvalidCommand, "given", "lift 602 2"), ((599,), "lift 1 2", TooMany, "given", 601),
                ((2,), "rim 2", NotLet, "given", (2,)), ((61,), "rim -", TooMany, "given", 61),
                ((2,), "undo", NothingToUndo, None, None)):
            console = Console(row)
            self.fails(error, name, told, console.say, command)
            self.fails(error, name, told, console.say, command=command)
            self.assertEqual((console.bench.now, console.bench.changes), (row, 0))


class Deeds(Case):
    def test_all_deeds(self):
        console = Console((4, 2, 1))
        bench = Bench((4, 2, 1))
        for command, deed, passed in (
                ("put 9", "put", (9,)), ("take 2", "take", (2,)), ("turn", "turn", ()), ("deal", "deal", ()),
                ("undo", "undo", ()), ("turn", "turn", ()), ("turn over", "turn_over", ()),
                ("exchange |1 |*0", "exchange", (Caps((), (1,)), Caps((), (None, 0)))), ("fish", "fish", ()),
                ("split 2", "split", (2,)), ("merge 3", "merge", (3,)), ("undo", "undo", ()), ("undo", "undo", ())):
            self.assertEqual(console.say(command), "ok")
            self.assertIsNone(getattr(bench, deed)(*passed))
            self.assertEqual((console.bench.now, console.bench.changes), (bench.now, bench.changes), command)
        for deed in ("strike", "lift", "rim"):
            console = Console((4, 4, 1))
            reached = {"strike": strikes, "lift": raises}.get(deed, lambda row, rods: rims(row))((4, 4, 1), 3)
            for row in reached:
                self.assertEqual(console.say(f"{deed} {as_text(row)}" + ("" if deed == "rim" else " 3")), "ok")
                self.assertEqual((console.bench.now, console.bench.changes), (row, 1))
                self.assertEqual(console.say("undo"), "ok")
                self.assertEqual((console.bench.now, console.bench.changes), ((4, 4, 1), 0))
        console = Console((1,))
        self.assertEqual([console.say("rim -"), console.say("row"), console.say("put 600"), console.say("row")],
                         ["ok", "-", "ok", "600"])

    def test_the_bench(self):
        console = Console((4, 4, 1))
        self.assertIs(console.bench, console.bench)
        self.assertIsInstance(console.bench, Bench)
        self.assertIsNot(Console((4, 4, 1)).bench, console.bench)
        console.bench.put(7)
        self.assertEqual([console.say("row"), console.say("undo"), console.say("row")], ["7+4+4+1", "ok", "4+4+1"])
        with self.assertRaises(NoSuchPart):
            with console.bench.trial():
                console.say("put 2")
                console.say("take 3")
        self.assertEqual((console.say("row"), console.bench.changes), ("4+4+1", 0))
        self.assertEqual(Console(row=(2,)).say("row"), "2")
        self.assertTrue(console)
        self.fails_in_order(Console, ("row", (2, 1), given(InvalidRow, NOT_ROWS)))


class Forms(Case):
    def refused(self, command):
        """A command is refused, and then the row is as before."""
        console = Console((3, 1))
        console.bench.put(3)
        self.fails(InvalidCommand, "given", command, console.say, command)
        self.fails(InvalidCommand, "given", command, console.say, command=command)
        self.assertEqual((console.bench.now, console.bench.changes), ((3, 3, 1), 1))

    def understood(self, command):
        """A command is of a form, whatever comes of it."""
        console = Console((3, 1))
        try:
            self.assertIsInstance(console.say(command), str)
        except InvalidCommand:
            self.fail(command)
        except (ValueError, LookupError, ArithmeticError):
            pass

    def test_right_forms(self):
        for word, kinds in FORMS.items():
            for turn in range(3):
                self.understood(" ".join([word] + [RIGHT[kind][turn] for kind in kinds.split()]))
            for kind in kinds.split():
                for value in RIGHT[kind]:
                    self.understood(" ".join([word] + [value if one == kind else RIGHT[one][0] for one in kinds.split()]))

    def test_too_much_and_too_little(self):
        for word, kinds in FORMS.items():
            words = [word] + [RIGHT[kind][0] for kind in kinds.split()]
            right = " ".join(words)
            for command in [right + " ", " " + right, right + "\n", right + " 3", right + " -", right + " |1", right + " x",
                            right.upper(), right.replace(" ", "  ", 1) if " " in right else right + "  ",
                            right[:1] + right, word + word, word + "s x", right + ";", "\t" + right, right + " " + right]:
                self.refused(command)
            if kinds:
                self.refused(" ".join(words[:-1]))
                self.refused(word)
                self.refused(" ".join(words[:-1] + [""]))
                self.refused(" ".join(words[:1] + words[:0:-1] + ["1"]))

    def test_words_otherwise(self):
        for word, kinds in FORMS.items():
            kinds = kinds.split()
            for at, kind in enumerate(kinds):
                for value in WRONG[kind]:
                    words = [RIGHT[one][0] for one in kinds]
                    self.refused(" ".join([word] + words[:at] + [value] + words[at + 1:]))

    def test_no_commands(self):
        for command in NOT_INTEGERS + (0, 1, -1, "", " ", "x", "over", "turn  over", "turnover", "turn_over", "Turn over",
                                       "turn over over", "turn over 2", "over turn", "none", "yes", "ok", "help", "strike",
                                       ("row",), ["row"], b"row", Caps((), (1,)), Bans(()), "strike 3 4+4+1", "rim 4 3",
                                       "exchange |1", "exchange none |1", "exchange |1 2+1", "let 2+1", "let none",
                                       "ladders 3", "core", "core 3 3", "number 3", "deed", "rows", "truth"):
            self.refused(command)


if __name__ == "__main__":
    unittest.main()
