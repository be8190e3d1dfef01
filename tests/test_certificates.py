import random
import unittest

from letparts.alike import first_unlike
from letparts.asking import next_counts
from letparts.certificates import (
    certify_alike, certify_balanced, certify_core, certify_counts, certify_dealt, certify_exchange, certify_fished,
    certify_fit, certify_game, certify_garden, certify_ladders, certify_lets, certify_next, certify_no_fit,
    certify_perfect, certify_place, certify_round, certify_vector, certify_within, certify_worth)
from letparts.checker import accepts
from letparts.counts import count, count_all, counts
from letparts.errors import (
    InvalidNumber, InvalidRow, NoFit, NotACore, NotAlike, NotARule, NotATally, NotCaps, NotLet, NotOdd, TooMany)
from letparts.exchange import exchanged
from letparts.games import is_lost, worth
from letparts.heaps import comes_again, dealt, is_garden
from letparts.ladders import ladders
from letparts.listed import place_let
from letparts.paying import is_balanced, is_perfect
from letparts.rods import core, is_core
from letparts.rules import Bans, Caps, is_within, lets
from letparts.splitting import fished
from letparts.tallies import Tally, fits, some_rule
from letparts.vectors import vector
from tests.helpers import (
    NOT_INTEGERS, NOT_ROWS, Case, given, listed_rows, odd_rows, random_bans, random_caps, random_row, random_unlike)

UNLIKE = Caps((), (1,))
ODD = Caps((), (None, 0))
FEW = Bans(((2, 1), (3,)))
SMALL = [row for number in range(10) for row in listed_rows(number)]
NOT_RULES = NOT_INTEGERS + (0, 2, -1, "|1", "none", (2, 1), ((), (1,)), Caps, Bans)
NOT_CAPS = NOT_RULES + (FEW, Bans(()))
NOT_TALLIES = NOT_INTEGERS + (0, 1, -1, "|1", (1, 1, 2, 2), [1, 1], UNLIKE, FEW, Tally)
NOT_RODS = NOT_INTEGERS + (-1, 0, 1, 10, 400)


def rules(seed, many):
    """Some told rules, and drawn ones of both kinds."""
    lots = random.Random(seed)
    told = [UNLIKE, ODD, FEW, Bans(()), Bans(((1,),)), Caps((), (None,)), Caps((), (0,)), Bans(((1, 1, 1), (3,)))]
    return told + [make(lots, kind) for _ in range(many) for make, kind in ((random_caps, Caps), (random_bans, Bans))]


def great_rows(seed, numbers=(60, 61, 200, 599, 600)):
    lots = random.Random(seed)
    return [make(lots, number) for number in numbers for make in (random_row, random_unlike) for _ in range(2)] + [
        (600,), (1,) * 600, (25,) * 24]


class Certificates(Case):
    def shown(self, claim, function, paper=None, **named):
        """The call returns this claim, with a paper that the checker accepts, and with this one, if it is told."""
        found = function(**named)
        self.same(found, function, **named)
        self.assertIs(type(found), tuple)
        self.assertEqual(repr(found[0]), repr(claim))
        self.assertIs(accepts(*found), True, found)
        if paper is not None:
            self.assertEqual(repr(found[1]), repr(paper))

    def test_rules_and_rows(self):
        lots = random.Random(171)
        for rule in rules(172, 12):
            for row in lots.sample(SMALL, 12) + [(), (600,), (1,) * 600]:
                self.shown(("lets" if lets(rule, row) else "bars", str(rule), row), certify_lets, rule=rule, row=row,
                           paper=() if lets(rule, row) else None)
            for number in (0, 1, 5, 60):
                paper = counts(rule if isinstance(rule, Caps) else Caps((), (None,)), number)
                self.shown(("counts", str(rule), number, count(rule, number)), certify_counts, rule=rule, number=number,
                           paper=paper)
        self.shown(("counts", "2+1 3", 3, 1), certify_counts, paper=tuple(map(count_all, range(4))), rule=FEW, number=3)

    def test_two_rules(self):
        some = rules(173, 5)
        seen = set()
        for rule in some:
            for other in some:
                number = first_unlike(rule, other)
                seen.add(number is None)
                self.shown(("alike" if number is None else "unlike", str(rule), str(other)), certify_alike,
                           rule=rule, other=other, paper=() if number is None else number)
                within = is_within(rule, other)
                self.shown(("within" if within else "not within", str(rule), str(other)), certify_within,
                           rule=rule, other=other, paper=() if within else None)
        self.assertEqual(seen, {True, False})
        late = Caps((None,) * 24, (None,) * 7 + (6,))
        self.shown(("unlike", "*" * 24 + "|*******6", "|*"), certify_alike, rule=late, other=Caps((), (None,)), paper=224)
        self.shown(("not within", "|*", str(late)), certify_within, rule=Caps((), (None,)), other=late, paper=(32,) * 7)

    def test_exchanges(self):
        lots = random.Random(174)
        for number in (0, 1, 7, 12, 59, 60):
            for _ in range(8):
                row = random_unlike(lots, number)
                self.shown(("exchanged", "|1", "|*0", row, exchanged(row, UNLIKE, ODD)), certify_exchange,
                           row=row, rule=UNLIKE, other=ODD)
                row = random_row(lots, number, (1, 3, 5, 7, 9, 21))
                self.shown(("exchanged", "|*0", "|1", row, exchanged(row, ODD, UNLIKE)), certify_exchange,
                           row=row, rule=ODD, other=UNLIKE)
        self.fails_in_order(
            certify_exchange, ("row", (2, 1), given(InvalidRow, NOT_ROWS)), ("rule", UNLIKE, given(NotCaps, NOT_CAPS)),
            ("other", ODD, given(NotCaps, NOT_CAPS)))
        self.fails(NotAlike, "given", 2, certify_exchange, (61,), UNLIKE, Caps((), (2,)))
        self.fails(TooMany, "given", 61, certify_exchange, (31, 30), ODD, UNLIKE)
        self.fails(NotLet, "given", (6, 6), certify_exchange, (6, 6), UNLIKE, ODD)

    def test_rods(self):
        for row in SMALL[::3] + great_rows(175):
            for rods in (2, 3, 9):
                self.shown(("core", row, rods, core(row, rods)), certify_core, row=row, rods=rods)
                if is_core(row, rods):
                    self.shown(("vector", row, vector(row, rods)), certify_vector, row=row, rods=rods, paper=())
                else:
                    self.fails(NotACore, "given", row, certify_vector, row, rods)
        self.shown(("core", (3, 1), 3, (3, 1)), certify_core, row=(3, 1), rods=3, paper=())
        self.shown(("core", (), 2, ()), certify_core, row=(), rods=2, paper=())
        for function in (certify_core, certify_vector):
            self.fails_in_order(function, ("row", (3, 1), given(InvalidRow, NOT_ROWS)),
                                ("rods", 3, given(InvalidNumber, NOT_RODS)))

    def test_heaps(self):
        for row in SMALL + great_rows(176) + [tuple(range(34, 0, -1)), (35,) + tuple(range(33, 1, -1)) + (1,)]:
            self.shown(("dealt", row, dealt(row)), certify_dealt, row=row, paper=())
            if is_garden(row):
                self.shown(("garden", row), certify_garden, row=row, paper=())
            else:
                self.same(None, certify_garden, row=row)
            if comes_again(row):
                path = [dealt(row)]
                while path[-1] != row:
                    path.append(dealt(path[-1]))
                self.shown(("round", row), certify_round, row=row, paper=tuple(path))
            else:
                self.same(None, certify_round, row=row)
        for function in (certify_dealt, certify_garden, certify_round):
            self.fails_in_order(function, ("row", (3, 1), given(InvalidRow, NOT_ROWS)))

    def test_paying(self):
        for row in SMALL + [(59, 1), (30, 30), (1,) * 60, (2,) + (1,) * 58, (243, 81, 27, 9, 3, 1), (1,) * 600]:
            if is_perfect(row) or sum(row) <= 60:
                self.shown(("perfect" if is_perfect(row) else "not perfect", row), certify_perfect, row=row)
            if is_balanced(row):
                self.shown(("balanced", row), certify_balanced, row=row)
            else:
                self.same(None, certify_balanced, row=row)
        for row, total in (((61,), 61), ((60, 1), 61), ((600,), 600), ((243, 81, 27, 9, 3, 1), 364)):
            self.fails(TooMany, "given", total, certify_perfect, row)
            self.fails(TooMany, "given", total, certify_perfect, row=row)
        self.shown(("perfect", (31,) + (1,) * 30), certify_perfect, row=(31,) + (1,) * 30, paper=(31, 2))
        self.shown(("not perfect", (2, 1, 1)), certify_perfect, row=(2, 1, 1), paper=2)
        for function in (certify_perfect, certify_balanced):
            self.fails_in_order(function, ("row", (3, 1), given(InvalidRow, NOT_ROWS)))

    def test_tallies(self):
        lots = random.Random(177)
        kinds = set()
        for _ in range(150):
            rule = random_caps(lots, Caps)
            length = lots.choice((1, 2, 5, 12, 22, 23, 24))
            tally = list(counts(rule, length)[1:])
            if lots.random() < 0.6:
                tally[lots.randrange(length)] += lots.choice((-1, 1, 2, -2))
            made = Tally(tuple(max(0, many) for many in tally))
            none = some_rule(made) is None
            kinds.add(none)
            if none:
                self.shown(("no fit", made.counts), certify_no_fit, tally=made)
            else:
                self.same(None, certify_no_fit, tally=made)
            if fits(made, rule):
                self.shown(("fits", made.counts, str(rule)), certify_fit, tally=made, rule=rule, paper=())
            else:
                self.same(None, certify_fit, tally=made, rule=rule)
            if none or length == 24:
                error, told = (NoFit, None) if none else (TooMany, 25)
                self.fails(error, "given" if told else None, told, certify_next, made, lots.randint(0, 9))
                continue
            following = next_counts(made)
            for many in {0, 1, following[0], following[-1], following[-1] + 1, max(0, following[0] - 1), 10 ** 90}:
                word = "next" if many in following else "not next"
                self.shown((word, made.counts, many), certify_next, tally=made, many=many,
                           paper=None if many in following else ())
        self.assertEqual(kinds, {True, False})
        self.shown(("no fit", (2,)), certify_no_fit, tally=Tally((2,)), paper=(1,))

    def test_wrong_tallies(self):
        tally = Tally((1, 1, 2, 2))
        wrong = given(NotATally, NOT_TALLIES)
        self.fails_in_order(certify_no_fit, ("tally", tally, wrong))
        self.fails_in_order(certify_fit, ("tally", tally, wrong), ("rule", UNLIKE, given(NotCaps, NOT_CAPS)))
        self.fails_in_order(certify_next, ("tally", tally, wrong),
                            ("many", 3, given(InvalidNumber, NOT_INTEGERS + (-1, -10 ** 90))))
        self.fails(InvalidNumber, "given", -1, certify_next, Tally((2,)), -1)
        self.fails(NoFit, None, None, certify_next, Tally((2,)), 1)
        self.fails(NoFit, None, None, certify_next, many=1, tally=Tally((2,) * 24))
        self.fails(TooMany, "given", 25, certify_next, Tally((0,) * 24), 0)
        self.fails(InvalidNumber, "given", True, certify_next, Tally((0,) * 24), True)

    def test_games(self):
        for row in SMALL + great_rows(178):
            self.shown(("worth", row, worth(row)), certify_worth, row=row, paper=())
            if sum(row) <= 60:
                self.shown(("lost" if is_lost(row) else "won", row), certify_game, row=row,
                           paper=() if is_lost(row) else None)
            else:
                self.fails(TooMany, "given", sum(row), certify_game, row)
        self.shown(("lost", (30, 30)), certify_game, row=(30, 30), paper=())
        self.fails(TooMany, "given", 64, certify_game, row=(32, 32))
        for function in (certify_worth, certify_game):
            self.fails_in_order(function, ("row", (3, 1), given(InvalidRow, NOT_ROWS)))

    def test_fished(self):
        lots = random.Random(179)
        rows = [row for number in range(12) for row in odd_rows(number)]
        for row in rows + [random_row(lots, number, (1, 3, 7, 15, 99)) for number in (60, 599, 600)]:
            self.shown(("fished", row, fished(row)), certify_fished, row=row, paper=())
        self.fails(NotOdd, "given", (3, 2), certify_fished, (3, 2))
        self.fails(NotOdd, "given", (3, 2), certify_fished, row=(3, 2))
        self.fails_in_order(certify_fished, ("row", (3, 1), given(InvalidRow, NOT_ROWS)))

    def test_places_and_ladders(self):
        lots = random.Random(180)
        for rule in rules(181, 6):
            for row in lots.sample(SMALL, 10) + [(60,), (24,), (12, 7, 4, 1), (1,) * 24]:
                if not lets(rule, row):
                    self.fails(NotLet, "given", row, certify_place, rule, row)
                    if sum(row) <= 24:
                        self.fails(NotLet, "given", row, certify_ladders, rule, row)
                    continue
                self.shown(("place", str(rule), row, place_let(rule, row)), certify_place, rule=rule, row=row, paper=())
                if sum(row) <= 24:
                    self.shown(("ladders", str(rule), row, ladders(rule, row)), certify_ladders, rule=rule, row=row)
        for row in ((61,), (31, 31)):
            self.fails(TooMany, "given", sum(row), certify_place, UNLIKE, row)
        for row in ((25,), (13, 13)):
            self.fails(TooMany, "given", sum(row), certify_ladders, UNLIKE, row)
        self.fails(NotLet, "given", (12, 12), certify_ladders, UNLIKE, (12, 12))
        self.fails(NotLet, "given", (30, 30), certify_place, rule=UNLIKE, row=(30, 30))
        self.shown(("ladders", "|*", (), 1), certify_ladders, rule=Caps((), (None,)), row=(), paper=())

    def test_wrong(self):
        rule = ("rule", UNLIKE, given(NotARule, NOT_RULES))
        for function in (certify_lets, certify_place, certify_ladders):
            self.fails_in_order(function, rule, ("row", (3, 1), given(InvalidRow, NOT_ROWS)))
        for function in (certify_alike, certify_within):
            self.fails_in_order(function, rule, ("other", ODD, given(NotARule, NOT_RULES)))
        self.fails_in_order(certify_counts, rule,
                            ("number", 4, given(InvalidNumber, NOT_INTEGERS + (-1, 61, 400, 10 ** 90))))


if __name__ == "__main__":
    unittest.main()
